"""The lower and the upper inverse of unbounded curves."""

from plantrace.curves import INITIAL, PERIOD, increments, is_unbounded, reaching, tabulated
from plantrace.errors import BoundedCurve


def require_unbounded(curve):
    """Raises BoundedCurve if the curve is bounded."""
    if not is_unbounded(curve):
        raise BoundedCurve("the curve is bounded")


def lower_at(curve, x):
    """The least point at which the curve is at least x."""
    require_unbounded(curve)
    return reaching(curve, x)


def upper_at(curve, x):
    """The greatest point at which the curve is at most x, or None."""
    require_unbounded(curve)
    return reaching(curve, x + 1) - 1 if x >= curve[INITIAL] else None


def lower_inverse(curve):
    """The curve of the lower inverses."""
    require_unbounded(curve)
    return tabulated(lower_points(curve), sum(curve[PERIOD]))


def upper_inverse(curve):
    """The curve of the upper inverses, with 0 where there is none."""
    require_unbounded(curve)
    # The greatest point with at most x stands before the least one with at least x + 1.
    points = [max(0, point - 1) for point in lower_points(curve)[1:]]
    return tabulated(points, sum(curve[PERIOD]))


def lower_points(curve):
    """The lower inverses from 0 on, until behind their first period."""
    initial, transient, period = curve
    many = initial + sum(transient) + sum(period) + 2
    points = [0] * (initial + 1)
    for at, step in enumerate(increments(curve, len(transient) + 2 * len(period)), start=1):
        points.extend([at] * step)
    return points[:many]
