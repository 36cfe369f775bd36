"""States: a plant, the lots that were received, and the cycles that its stages have run.

A lot is (material, quantity, cost), a state (plant, lots, cycles).
"""

from plantrace.chains import meets
from plantrace.completion import completed, require_at_most, totals_behind

MOST = 24


def loaded(plant, lots):
    """The state on completion of the lots."""
    cycles, units, _ = completed(plant, receipts_of(lots))
    require_at_most(MOST, cycles, dict(units))
    return plant, lots, cycles


def is_state(state):
    """True if receipts of the lots and runs of runnable stages can lead to the state."""
    plant, lots, cycles = state
    if max(cycles) > MOST or max(state_totals(state).values()) > MOST:
        return False
    return meets(plant, receipts_of(lots), cycles, ())


def totals(state):
    """The pairs (buffer, total) of all buffers."""
    return tuple(sorted(state_totals(state).items()))


def state_totals(state):
    """For each buffer its total."""
    plant, lots, cycles = state
    return totals_behind(plant, receipts_of(lots), cycles)


def last_unit(lots, lot):
    """The number of the last unit of the lot."""
    return dict(receipts_of(lots[:lot + 1]))[lots[lot][0]]


def receipts_of(lots):
    """The pairs (material, units) of what the lots bring together."""
    units = {}
    for material, quantity, _ in lots:
        units[material] = units.get(material, 0) + quantity
    return tuple(units.items())
