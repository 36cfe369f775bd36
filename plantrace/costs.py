"""Costs: what units cost, what was spent, and what the stages carry."""

from itertools import accumulate

from plantrace.curves import increment, value
from plantrace.plants import COST, INPUTS, OUTPUTS, buffers, reader_places
from plantrace.records import require_unit
from plantrace.stages import positions_taken, units_produced
from plantrace.traces import lot_units


def apportioned(cost, weights):
    """What each member gets of the cost by its weight."""
    whole = sum(weights)
    if whole == 0:
        return (0,) * len(weights)
    bounds = [0] + [cost * part // whole for part in accumulate(weights)]
    return tuple([high - low for low, high in zip(bounds, bounds[1:])])


def unit_cost(state, buffer, unit):
    """The cost of the unit."""
    require_unit(state, buffer, unit)
    costs, _ = played_costs(state)
    return costs[(buffer, unit)]


def report(state):
    """What was spent, the inventories of all buffers, and what each stage carries."""
    plant, lots, cycles = state
    costs, carried = played_costs(state)
    spent = sum([cost for _, _, cost in lots])
    spent += sum([value(stage[COST], many) for stage, many in zip(plant, cycles)])
    inventories = {buffer: 0 for buffer in buffers(plant)}
    for (buffer, unit), cost in costs.items():
        if unit > units_taken(plant, cycles, buffer):
            inventories[buffer] += cost
    return spent, tuple(inventories.items()), carried


def units_taken(plant, cycles, buffer):
    """The number of the last unit of the buffer that a cycle has taken, 0 or less if there is none."""
    readers = reader_places(plant)
    if buffer not in readers:
        return 0
    number, place = readers[buffer]
    _, consumption, stock, _ = plant[number][INPUTS][place]
    return value(consumption, cycles[number]) - stock


def played_costs(state):
    """For each existing unit (buffer, unit) its cost, and the tuple of what each stage carries."""
    plant, lots, cycles = state
    costs, carried = lot_costs(lots), []
    for stage, many in zip(plant, cycles):
        rest = 0
        for cycle in range(1, many + 1):
            rest += cost_added(stage, cycle, costs)
            units = units_with_weights(stage, cycle)
            weights = [weight for _, weight in units]
            shares = apportioned(rest, weights)
            costs.update({unit: share for (unit, _), share in zip(units, shares)})
            rest -= sum(shares)
        carried.append(rest)
    return costs, tuple(carried)


def lot_costs(lots):
    """For each unit of the lots its cost."""
    costs = {}
    for lot, (material, quantity, cost) in enumerate(lots):
        shares = apportioned(cost, (1,) * quantity)
        costs.update({(material, unit): share for unit, share in zip(lot_units(lots, lot), shares)})
    return costs


def cost_added(stage, cycle, costs):
    """What the cycle adds: the costs of the units that it takes and its own."""
    added = increment(stage[COST], cycle - 1)
    for feed in stage[INPUTS]:
        buffer, _, stock, _ = feed
        added += sum([costs.get((buffer, position - stock), 0) for position in positions_taken(feed, cycle)])
    return added


def units_with_weights(stage, cycle):
    """The units that the cycle produces, output by output, each with the weight of its output."""
    rows = []
    for output in stage[OUTPUTS]:
        buffer, _, weight = output
        rows.extend([((buffer, unit), weight) for unit in units_produced(output, cycle)])
    return rows
