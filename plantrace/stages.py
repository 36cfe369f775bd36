"""Stages: what their cycles take, hold and produce, and how many cycles so many units support.

An input is (buffer, consumption, stock, tool), an output (buffer, production, weight).
"""

from plantrace.curves import value
from plantrace.inverses import lower_at, upper_at


def supports(feed, total):
    """The number of cycles that the input supports with this total of its buffer."""
    _, consumption, stock, _ = feed
    return upper_at(consumption, total + stock)


def supported(stage, totals):
    """The number of cycles that the stage supports with these totals of its inputs' buffers."""
    feeds = stage[0]
    return min([supports(feed, there) for feed, there in zip(feeds, totals)])


def produced(output, cycle):
    """The first and the last unit that the cycle produces, or None."""
    _, production, _ = output
    return numbers_at(production, cycle)


def units_produced(output, cycle):
    """The units that the cycle produces, ascending."""
    _, production, _ = output
    return numbers_within(production, cycle)


def producing_cycle(output, unit):
    """The cycle that produces the unit."""
    _, production, _ = output
    return lower_at(production, unit)


def taken(feed, cycle):
    """The first and the last position that the cycle takes, or None."""
    _, consumption, _, _ = feed
    return numbers_at(consumption, cycle)


def positions_taken(feed, cycle):
    """The positions that the cycle takes, ascending."""
    _, consumption, _, _ = feed
    return numbers_within(consumption, cycle)


def numbers_at(flow, cycle):
    """The first and the last number by which the flow rises in the cycle, or None."""
    before, after = value(flow, cycle - 1), value(flow, cycle)
    return (before + 1, after) if before < after else None


def numbers_within(flow, cycle):
    """The numbers by which the flow rises in the cycle, ascending."""
    return tuple(range(value(flow, cycle - 1) + 1, value(flow, cycle) + 1))


def held(feed, cycle):
    """The positions that the cycle holds, ascending."""
    _, consumption, _, tool = feed
    if not tool:
        return positions_taken(feed, cycle)
    last = value(consumption, cycle)
    return (last,) if last > 0 else ()


def use(feed, position):
    """The first and the last cycle of the position."""
    _, consumption, _, tool = feed
    first = lower_at(consumption, position)
    return first, upper_at(consumption, position) if tool else first
