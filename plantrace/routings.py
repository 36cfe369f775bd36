"""Routings: which branch each unit goes to, in the end periodic, and the shares of the branches.

A routing is (transient, period): the branches of the first units, and those that are
repeated for ever behind them.
"""

from plantrace.curves import INITIAL, gain, increment, member, normal, normal_parts, reach


def branch(routing, unit):
    """The branch to which the unit goes."""
    transient, period = routing
    return member(transient, period, unit)


def normal_routing(routing):
    """The normal form of the routing."""
    transient, period = routing
    return normal_parts(transient, period)


def shares(routing, many):
    """For each of so many branches the curve of the number of units that go to it."""
    transient, period = routing
    return tuple([normal((0, marks(transient, number), marks(period, number))) for number in range(many)])


def marks(units, number):
    """1 for each of the units that goes to the branch of this number, otherwise 0."""
    return tuple([1 if unit == number else 0 for unit in units])


def from_shares(curves):
    """The routing whose shares the curves are, or None."""
    curves = [normal(curve) for curve in curves]
    start, common = reach(curves)
    # Curves whose rates add up to 1 are shares unless two of them rise at once. Two do
    # so within their own common period, so this test keeps the loop below short.
    rates_fit = sum([gain(curve, common) for curve in curves]) == common
    if not rates_fit or any([curve[INITIAL] > 0 for curve in curves]):
        return None
    units = []
    for unit in range(start + common):
        rises = [increment(curve, unit) for curve in curves]
        if sum(rises) != 1:
            return None
        units.append(rises.index(1))
    return normal_routing((tuple(units[:start]), tuple(units[start:])))
