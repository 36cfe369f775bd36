"""Curves: non-decreasing counts whose increments are periodic in the end.

A curve is (initial, transient, period): its value at 0 and its increments, of
which those of the period are repeated for ever.
"""

from itertools import accumulate
from math import gcd, lcm

INITIAL = 0
TRANSIENT = 1
PERIOD = 2
ZERO = (0, (), (0,))
IDENTITY = (0, (), (1,))


def value(curve, x):
    """The value of the curve at x."""
    return values_at(curve, (x,))[0]


def values_at(curve, points):
    """The values of the curve at the points, as a list."""
    start, size, rise = len(curve[TRANSIENT]), len(curve[PERIOD]), sum(curve[PERIOD])
    heights = first_values(curve, start + size)
    return [
        heights[x] if x < start else heights[start + (x - start) % size] + (x - start) // size * rise
        for x in points
    ]


def member(transient, period, at):
    """The member at this place of a sequence that repeats the period behind the transient part."""
    if at < len(transient):
        return transient[at]
    return period[(at - len(transient)) % len(period)]


def increment(curve, k):
    """Increment k of the curve."""
    _, transient, period = curve
    return member(transient, period, k)


def increments(curve, many):
    """The first increments of the curve, as a list."""
    _, transient, period = curve
    rounds = max(0, many - len(transient)) // len(period) + 1
    return (list(transient) + list(period) * rounds)[:many]


def first_values(curve, many):
    """The values of the curve at 0 to many - 1, as a list; many is at least 1."""
    return list(accumulate([curve[INITIAL]] + increments(curve, many - 1)))


def gaps(first, second, many):
    """The values of the first curve less those of the second one at 0 to many - 1."""
    pairs = zip(first_values(first, many), first_values(second, many))
    return [high - low for high, low in pairs]


def normal(curve):
    """The normal form of the curve."""
    initial, transient, period = curve
    transient, period = normal_parts(transient, period)
    return initial, transient, period


def normal_parts(transient, period):
    """The normal form of a sequence that repeats the period behind the transient part."""
    period = shortest_period(period)
    size = len(period)
    same = 0
    while same < len(transient) and transient[-1 - same] == period[-1 - same % size]:
        same += 1
    turn = size - same % size
    return transient[:len(transient) - same], period[turn:] + period[:turn]


def shortest_period(period):
    """The shortest tuple of which the period is a repetition."""
    size = len(period)
    for factor in prime_factors(size):
        # A tuple that repeats two lengths repeats their greatest common divisor
        # as well, so the factors may be tried one after another.
        if period[:size // factor] * factor == period[:size]:
            size //= factor
    return period[:size]


def prime_factors(number):
    """The prime factors of the number, ascending, each as often as it occurs."""
    found = []
    factor = 2
    while factor * factor <= number:
        if number % factor == 0:
            found.append(factor)
            number //= factor
        else:
            factor += 1
    return found + [number] if number > 1 else found


def is_unbounded(curve):
    """True if the curve has no greatest value."""
    return sum(curve[PERIOD]) > 0


def rate(curve):
    """The rise of the period over its length, a pair without a common divisor."""
    rise, size = sum(curve[PERIOD]), len(curve[PERIOD])
    common = gcd(rise, size)
    return rise // common, size // common


def is_slower(first, second):
    """True if the rate of the first curve is less than that of the second one."""
    return sum(first[PERIOD]) * len(second[PERIOD]) < sum(second[PERIOD]) * len(first[PERIOD])


def gain(curve, many):
    """By how much the curve rises in so many steps, whole periods, of its periodic part."""
    return many // len(curve[PERIOD]) * sum(curve[PERIOD])


def reach(curves):
    """A pair: from where on all the curves are periodic, and with which common period."""
    common = 1
    for curve in curves:
        common = lcm(common, len(curve[PERIOD]))
    return max([len(curve[TRANSIENT]) for curve in curves]), common


def first_difference(first, second):
    """The least point at which the values differ, or None."""
    for x, gap in enumerate(gaps(first, second, sum(reach((first, second))) + 1)):
        if gap != 0:
            return x
    return None


def tabulated(values, period):
    """The curve with these values whose last increments are repeated for ever."""
    steps = tuple([after - before for before, after in zip(values, values[1:])])
    return normal((values[0], steps[:-period], steps[-period:]))


def raised(curve, k):
    """The curve whose value is greater by k everywhere."""
    initial, transient, period = curve
    return normal((initial + k, transient, period))


def advanced(curve, k):
    """The curve whose value at x is that at x + k."""
    _, transient, period = curve
    turn = max(0, k - len(transient)) % len(period)
    return normal((value(curve, k), transient[k:], period[turn:] + period[:turn]))


def delayed(curve, k):
    """The curve whose value at x is that at x - k, and below k that at 0."""
    initial, transient, period = curve
    return normal((initial, (0,) * k + transient, period))


def reduced(curve, k):
    """The curve whose value is less by k everywhere, but at least 0."""
    if curve[INITIAL] >= k:
        return raised(curve, -k)
    if not is_unbounded(curve) and value(curve, len(curve[TRANSIENT])) <= k:
        return ZERO
    at = reaching(curve, k)
    height, transient, period = advanced(curve, at)
    return normal((0, (0,) * (at - 1) + (height - k,) + transient, period))


def reaching(curve, height):
    """The least point at which the value is at least the height, for a height that is reached."""
    start, size, rise = len(curve[TRANSIENT]), len(curve[PERIOD]), sum(curve[PERIOD])
    rounds = max(0, height - value(curve, start) - 1) // max(1, rise)
    low = height - rounds * rise
    heights = first_values(curve, start + size + 1)
    return [x for x, there in enumerate(heights) if there >= low][0] + rounds * size


def last_above(slower, faster):
    """The last point at which the slower curve is above the faster one, or None."""
    start, common = reach((slower, faster))
    nearing = gain(faster, common) - gain(slower, common)
    last = None
    for x, gap in enumerate(gaps(slower, faster, start + common)):
        if gap > 0:
            point = x if x < start else x + (gap - 1) // nearing * common
            last = point if last is None else max(last, point)
    return last


def crossing(first, second):
    """The last point at which the slower one of the curves is above the other one, or None."""
    if is_slower(first, second):
        return last_above(first, second)
    if is_slower(second, first):
        return last_above(second, first)
    return None


def settled(first, second):
    """A pair: from where on minimum and maximum are periodic, and with which period."""
    start, common = reach((first, second))
    last = crossing(first, second)
    return start if last is None else max(start, last + 1), common


def minimum(first, second):
    """The curve with the lesser one of both values everywhere."""
    start, common = settled(first, second)
    many = start + common + 1
    pairs = zip(first_values(first, many), first_values(second, many))
    return tabulated([one if one < two else two for one, two in pairs], common)


def maximum(first, second):
    """The curve with the greater one of both values everywhere."""
    start, common = settled(first, second)
    many = start + common + 1
    pairs = zip(first_values(first, many), first_values(second, many))
    return tabulated([one if one > two else two for one, two in pairs], common)


def total(curves):
    """The curve with the sum of all values everywhere."""
    if not curves:
        return ZERO
    start, common = reach(curves)
    rows = [increments(curve, start + common) for curve in curves]
    steps = tuple([sum(column) for column in zip(*rows)])
    return normal((sum([curve[INITIAL] for curve in curves]), steps[:start], steps[start:]))


def composed(curves):
    """The curve that is obtained by applying all the curves, the first one first."""
    result = normal(curves[0])
    for outer in curves[1:]:
        result = applied(outer, result)
    return result


def applied(outer, inner):
    """The curve with the outer curve's value at the inner curve's value everywhere."""
    start = len(inner[TRANSIENT])
    if is_unbounded(inner):
        start = max(start, reaching(inner, len(outer[TRANSIENT])))
    # The inner curve rises by whole periods of the outer one in so many of its own.
    rounds = len(outer[PERIOD]) // gcd(sum(inner[PERIOD]), len(outer[PERIOD]))
    many = rounds * len(inner[PERIOD])
    return tabulated(values_at(outer, first_values(inner, start + many + 1)), many)
