"""How far one curve gets above another one, and where."""

from plantrace.curves import first_values, gain, gaps, is_slower, last_above, reach, values_at
from plantrace.inverses import lower_inverse, require_unbounded


def vertical(first, second):
    """The greatest excess of the first curve over the second one, or None."""
    if is_slower(second, first):
        return None
    return max(0, max(gaps(first, second, sum(reach((first, second))))))


def horizontal(first, second):
    """By how many points the second curve is late at most, or None."""
    require_unbounded(second)
    if is_slower(second, first):
        return None
    # One common period is enough: a period later the first curve has risen at most
    # as much as the second one, so the second one is not later there.
    heights = first_values(first, sum(reach((first, second))))
    points = values_at(lower_inverse(second), heights)
    return max(0, max([at - x for x, at in enumerate(points)]))


def last_exceedance(first, second):
    """The last point at which the first curve is above: "never", a number or "always"."""
    if is_slower(second, first):
        return "always"
    if is_slower(first, second):
        last = last_above(first, second)
        return "never" if last is None else last
    start, common = reach((first, second))
    above = [x for x, gap in enumerate(gaps(first, second, start + common)) if gap > 0]
    if not above:
        return "never"
    return above[-1] if above[-1] < start else "always"


def first_above(first, second, m):
    """The least point at which the first curve is above the second one by more than m, or None."""
    start, common = reach((first, second))
    leaving = gain(first, common) - gain(second, common)
    found = None
    for x, gap in enumerate(gaps(first, second, start + common)):
        point = None
        if gap > m:
            point = x
        elif x >= start and leaving > 0:
            point = x + ((m - gap) // leaving + 1) * common
        if point is not None:
            found = point if found is None else min(found, point)
    return found
