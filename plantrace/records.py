"""Records: which stage made a unit in which cycle, and from what.

A reference is ("unit", buffer, unit), or ("initial", stage, input, position).
"""

from plantrace.errors import NoSuchUnit
from plantrace.plants import INPUTS, OUTPUTS, writer_places
from plantrace.stages import held, producing_cycle
from plantrace.states import last_unit, state_totals


def record(state, buffer, unit):
    """The record (stage, cycle, lot, components) of the unit."""
    require_unit(state, buffer, unit)
    plant, lots, _ = state
    writers = writer_places(plant)
    if buffer not in writers:
        return None, None, lot_of(lots, buffer, unit), ()
    number, place = writers[buffer]
    cycle = producing_cycle(plant[number][OUTPUTS][place], unit)
    return number, cycle, None, components(plant, number, cycle)


def require_unit(state, buffer, unit):
    """Raises NoSuchUnit if the unit does not exist in the state."""
    if not exists(state, buffer, unit):
        raise NoSuchUnit(buffer, unit)


def exists(state, buffer, unit):
    """True if the unit exists in the state."""
    return unit <= state_totals(state).get(buffer, 0)


def lot_of(lots, material, unit):
    """The number of the lot to which the unit of the material belongs."""
    behind = [
        lot for lot, row in enumerate(lots)
        if row[0] == material and last_unit(lots, lot) >= unit
    ]
    return behind[0]


def components(plant, number, cycle):
    """The references of what the cycle of the stage holds."""
    return tuple([
        reference(number, place, feed, position)
        for place, feed in enumerate(plant[number][INPUTS]) for position in held(feed, cycle)
    ])


def reference(number, place, feed, position):
    """The reference of what stands at the position in front of the input of the stage."""
    buffer, _, stock, _ = feed
    if position <= stock:
        return "initial", number, place, position
    return "unit", buffer, position - stock
