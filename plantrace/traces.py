"""Traces: what units contain, and which units contain them.

The units of the buffers are dicts of dicts: buffer, unit, True.
"""

from plantrace.plants import INPUTS, OUTPUTS
from plantrace.ranges import numbers_of, ranges_of
from plantrace.stages import held, producing_cycle, units_produced
from plantrace.states import last_unit


def upstream(plant, buffer, units):
    """The units, the cycles of the stages and the initial units from which the units come."""
    contained = {buffer: {unit: True for unit in units}}
    initial = {}
    cycles = []
    # What reads a buffer stands behind the stage that writes it. So, from the last stage
    # to the first one, all units of a buffer are known when their cycles are looked for.
    for number in reversed(range(len(plant))):
        feeds, outputs = plant[number][INPUTS], plant[number][OUTPUTS]
        ran = contributing(outputs, contained)
        cycles.append(ran)
        for place, feed in enumerate(feeds):
            positions = held_positions(feed, ran)
            add_units(contained, feed[0], [at - feed[2] for at in positions if at > feed[2]])
            initial[(number, place)] = [at for at in positions if at <= feed[2]]
    return (
        buffer_ranges(contained),
        tuple([ranges_of(ran) for ran in reversed(cycles)]),
        tuple([key + (ranges_of(found),) for key, found in sorted(initial.items()) if found]),
    )


def contributing(outputs, contained):
    """The cycles of a stage that produced one of the units."""
    return sorted({
        producing_cycle(output, unit) for output in outputs for unit in contained.get(output[0], {})
    })


def held_positions(feed, cycles):
    """The positions in front of the input that the cycles hold."""
    return [position for cycle in cycles for position in held(feed, cycle)]


def downstream(state, source):
    """The existing units that contain one of the source's units, or come from its cycles."""
    return buffer_ranges(containing(state, source_units(state, source)))


def source_units(state, source):
    """The units of a lot, of a range of units, or those that a range of cycles produced."""
    plant, lots, _ = state
    found = {}
    if source[0] == "lot":
        add_units(found, lots[source[1]][0], lot_units(lots, source[1]))
    elif source[0] == "units":
        _, buffer, first, last = source
        add_units(found, buffer, numbers_of(((first, last),)))
    else:
        _, number, first, last = source
        for cycle in range(first, last + 1):
            add_products(found, plant[number], cycle)
    return found


def lot_units(lots, lot):
    """The numbers of the units of the lot."""
    last = last_unit(lots, lot)
    return numbers_of(((last - lots[lot][1] + 1, last),))


def containing(state, units):
    """The units, and the existing units that contain one of them."""
    plant, _, cycles = state
    found = {buffer: dict(numbers) for buffer, numbers in units.items()}
    for stage, ran in zip(plant, cycles):
        for cycle in range(1, ran + 1):
            if any([holds_one(feed, cycle, found) for feed in stage[INPUTS]]):
                add_products(found, stage, cycle)
    return found


def holds_one(feed, cycle, units):
    """True if the cycle holds one of the units in front of the input."""
    buffer, _, stock, _ = feed
    there = units.get(buffer, {})
    return any([position - stock in there for position in held(feed, cycle)])


def add_products(found, stage, cycle):
    """Adds the units that the cycle of the stage produces."""
    for output in stage[OUTPUTS]:
        add_units(found, output[0], units_produced(output, cycle))


def add_units(found, buffer, units):
    """Adds the units of the buffer."""
    there = found.setdefault(buffer, {})
    there.update({unit: True for unit in units})


def buffer_ranges(units):
    """The pairs (buffer, ranges) of the buffers with any units."""
    return tuple([(buffer, ranges_of(numbers)) for buffer, numbers in sorted(units.items()) if numbers])
