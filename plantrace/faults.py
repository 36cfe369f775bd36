"""Faults: bad lots and broken tools, what they affect, and what observations tell of them.

A fault is ("lot", lot) or ("tool", stage, input, position, cycle). Which of some
faults are meant is told by a mark, an integer: bit k is 1 if fault k is meant.
"""

from plantrace.curves import value
from plantrace.plants import INPUTS, OUTPUTS
from plantrace.records import exists, require_unit
from plantrace.stages import held, units_produced, use
from plantrace.traces import add_units, buffer_ranges, lot_units

EXONERATING = ("sound", "intact", "good")


def causes(state):
    """The lots, and the tools that were in use with the first and the last such cycle."""
    plant, lots, cycles = state
    found = [("lot", lot) for lot in range(len(lots))]
    for number, stage in enumerate(plant):
        for place, feed in enumerate(stage[INPUTS]):
            if feed[3]:
                rows = tools_used(feed, cycles[number])
                found.extend([("tool", number, place) + row for row in rows])
    return tuple(found)


def tools_used(feed, many):
    """The positions in use in the first cycles, with the first and the last such cycle."""
    rows = []
    for position in range(1, value(feed[1], many) + 1):
        first, last = use(feed, position)
        rows.append((position, first, min(last, many)))
    return rows


def cause_of(fault):
    """The cause of a fault, and likewise the row of causes without its cycles."""
    return fault[:4]


def possible_faults(state):
    """All possible faults, in their order."""
    found = []
    for cause in causes(state):
        if cause[0] == "lot":
            found.append(cause)
        else:
            _, _, _, _, first, last = cause
            found.extend([cause_of(cause) + (cycle,) for cycle in range(first, last + 1)])
    return tuple(found)


def is_possible(state, fault):
    """True if the fault is possible in the state."""
    plant, lots, cycles = state
    if fault[0] == "lot":
        return fault[1] < len(lots)
    _, number, place, position, cycle = fault
    return tool_at(plant, cycles, number, place, cycle) == position


def tool_at(plant, cycles, number, place, cycle):
    """The position of the tool in use at the cycle that was run, or None if there is none."""
    if number >= len(plant) or place >= len(plant[number][INPUTS]) or cycle > cycles[number]:
        return None
    feed = plant[number][INPUTS][place]
    return max(held(feed, cycle), default=None) if feed[3] else None


def is_scenario(state, scenario):
    """True if all the faults are possible, no two of them with the same cause."""
    different = len({cause_of(fault) for fault in scenario}) == len(scenario)
    return different and all([is_possible(state, fault) for fault in scenario])


def is_valid(state, observation):
    """True if what is observed is there: the unit, the tool in use at the cycle, the lot."""
    plant, lots, cycles = state
    _, *what = observation
    if len(what) == 1:
        return what[0] < len(lots)
    if len(what) == 2:
        buffer, unit = what
        return exists(state, buffer, unit)
    number, place, cycle = what
    return tool_at(plant, cycles, number, place, cycle) is not None


def marks(state, faults):
    """For each existing unit (buffer, unit) the mark of the faults that affect it."""
    plant, lots, cycles = state
    found = {}
    for lot, (material, _, _) in enumerate(lots):
        bad = mark_of([fault == ("lot", lot) for fault in faults])
        found.update({(material, unit): bad for unit in lot_units(lots, lot)})
    for number, (stage, many) in enumerate(zip(plant, cycles)):
        breaks = [breaks_of(faults, number, place) for place in range(len(stage[INPUTS]))]
        for cycle in range(1, many + 1):
            mark = cycle_mark(stage[INPUTS], breaks, cycle, found)
            for output in stage[OUTPUTS]:
                found.update({(output[0], unit): mark for unit in units_produced(output, cycle)})
    return found


def mark_of(meant):
    """The mark of the faults that are meant, told by True or False for each."""
    return sum([1 << k for k, told in enumerate(meant) if told])


def breaks_of(faults, number, place):
    """For each position in front of the input the pairs of a cycle and the mark of a break there."""
    found = {}
    for k, fault in enumerate(faults):
        if fault[:3] == ("tool", number, place):
            _, _, _, position, cycle = fault
            found.setdefault(position, []).append((cycle, 1 << k))
    return found


def cycle_mark(feeds, breaks, cycle, found):
    """The mark of the faults that affect what the cycle produces."""
    mark = 0
    for feed, broken in zip(feeds, breaks):
        buffer, _, stock, _ = feed
        for position in held(feed, cycle):
            mark |= found.get((buffer, position - stock), 0)
            mark |= sum([bit for begin, bit in broken.get(position, []) if begin <= cycle])
    return mark


def is_defective(state, scenario, buffer, unit):
    """True if the unit is defective in the scenario."""
    require_unit(state, buffer, unit)
    return marks(state, scenario)[(buffer, unit)] != 0


def defective_units(state, scenario):
    """The pairs (buffer, ranges) of all units that are defective in the scenario."""
    found = {}
    for (buffer, unit), mark in marks(state, scenario).items():
        if mark != 0:
            add_units(found, buffer, (unit,))
    return buffer_ranges(found)


def is_consistent(state, scenario, observation):
    """True if the scenario is consistent with the observation."""
    blamed = blame(state, scenario, marks(state, scenario), observation)
    return (blamed == 0) == (observation[0] in EXONERATING)


def blame(state, faults, affecting, observation):
    """The mark of the faults each of which makes what is observed defective, broken or bad.

    What affects each unit is told by the marks of these faults.
    """
    plant, _, cycles = state
    _, *what = observation
    if len(what) == 1:
        return mark_of([fault == ("lot", what[0]) for fault in faults])
    if len(what) == 2:
        buffer, unit = what
        return affecting[(buffer, unit)]
    number, place, cycle = what
    tool = ("tool", number, place, tool_at(plant, cycles, number, place, cycle))
    return mark_of([cause_of(fault) == tool and fault[4] <= cycle for fault in faults])


def each_scenario(state, most):
    """Yields all scenarios of at most so many faults, fewer faults first, then by the order of faults."""
    faults = possible_faults(state)
    follow = followers(faults)
    for many in range(most + 1):
        yield from each_choice(faults, follow, 0, many)


def followers(faults):
    """For each of some faults in their order the number of the first one with a later cause."""
    found = [len(faults)] * len(faults)
    for at in reversed(range(len(faults) - 1)):
        same = cause_of(faults[at]) == cause_of(faults[at + 1])
        found[at] = found[at + 1] if same else at + 1
    return found


def each_choice(faults, follow, begin, many):
    """Yields all choices of so many faults with different causes, from number begin on, in order."""
    if many == 0:
        yield ()
        return
    fewer = many - 1
    for at in range(begin, len(faults)):
        behind = follow[at]
        for rest in each_choice(faults, follow, behind, fewer):
            yield (faults[at],) + rest
