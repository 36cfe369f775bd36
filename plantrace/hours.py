"""Hours: work by calendars, and curves that tell which hours are open.

An hour curve has the initial value 0 and increments 0 and 1; its value at t is the
number of the open hours before hour t.
"""

from plantrace.curves import PERIOD, TRANSIENT, delayed, increments, normal, reach, value
from plantrace.inverses import lower_at, upper_at


def finish(calendar, start, hours):
    """The hour at which work of so many open hours, started at this hour, finishes."""
    return lower_at(calendar, value(calendar, start) + hours) if hours > 0 else start


def next_open(calendar, start):
    """The first open hour from this hour on."""
    return finish(calendar, start, 1) - 1


def latest_start(calendar, end, hours):
    """The greatest hour from which on so much work finishes by the end, or None."""
    if hours == 0:
        return end
    return upper_at(calendar, value(calendar, end) - hours)


def greatest_elapsed(calendar, hours):
    """The greatest number of hours from a start to the finish of so much work."""
    # From the transient part on a start that is a period later finishes a period later.
    many = len(calendar[TRANSIENT]) + len(calendar[PERIOD])
    return max([finish(calendar, start, hours) - start for start in range(many)])


def both_open(first, second):
    """The hour curve that is open where both are."""
    return opened(first, second, 2)


def any_open(first, second):
    """The hour curve that is open where one of them is."""
    return opened(first, second, 1)


def opened(first, second, least):
    """The hour curve that is open where at least so many of the two are."""
    start, common = reach((first, second))
    pairs = zip(increments(first, start + common), increments(second, start + common))
    steps = tuple([1 if one + two >= least else 0 for one, two in pairs])
    return normal((0, steps[:start], steps[start:]))


def complement(curve):
    """The hour curve that is open where the curve is closed."""
    _, transient, period = curve
    return normal((0, tuple([1 - step for step in transient]), tuple([1 - step for step in period])))


def put_off(curve, hours):
    """The hour curve that is so many hours later, closed before."""
    return delayed(curve, hours)
