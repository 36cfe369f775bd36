"""Requirements: what a demand needs, what is short of it, and which materials limit a buffer."""

from plantrace.completion import MOST, completed, received, require_at_most, totals_written
from plantrace.curves import value
from plantrace.plants import INPUTS, OUTPUTS, buffers, depends, materials
from plantrace.stages import producing_cycle, supports


def requirements(plant, demand):
    """The requirements of all materials, and the required cycles of the stages."""
    units, cycles = required(plant, demand)
    return tuple([(material, units[material]) for material in materials(plant)]), cycles


def required(plant, demand):
    """For each buffer its requirement, and the tuple of the required cycles of the stages."""
    units = demanded(plant, demand)
    cycles = []
    for stage in reversed(plant):
        many = max(cycles_for(stage, units))
        cycles.append(many)
        for buffer, consumption, stock, _ in stage[INPUTS]:
            units[buffer] = max(units[buffer], value(consumption, many) - stock)
    require_at_most(MOST, cycles, units)
    return units, tuple(cycles[::-1])


def demanded(plant, demand):
    """For each buffer the demand on it."""
    units = {buffer: 0 for buffer in buffers(plant)}
    for buffer, quantity in demand:
        units[buffer] = max(units[buffer], quantity)
    return units


def cycles_for(stage, units):
    """For each output the least number of cycles that produce so many units of its buffer."""
    return [producing_cycle(output, units[output[0]]) for output in stage[OUTPUTS]]


def shortages(plant, receipts, demand):
    """The missing units of each material of which less was received than is required."""
    units, _ = required(plant, demand)
    there = received(plant, receipts)
    return tuple([
        (material, units[material] - there[material])
        for material in materials(plant) if units[material] > there[material]
    ])


def alone(plant, receipts, buffer):
    """What the receipts of each material on which the buffer depends alone allow of it."""
    completed(plant, receipts)
    there = received(plant, receipts)
    return tuple([
        (material, allowed(plant, material, there[material])[buffer])
        for material in depends(plant, buffer)
    ])


def allowed(plant, material, many):
    """What so many units of the material alone allow of each buffer that depends on it."""
    units = {material: many}
    cycles = []
    for stage in plant:
        limits = [supports(feed, units[feed[0]]) for feed in stage[INPUTS] if feed[0] in units]
        if limits:
            cycles.append(min(limits))
            units.update(totals_written(stage, min(limits)))
    require_at_most(MOST, cycles, units)
    return units


def bottlenecks(plant, receipts, buffer):
    """The materials that alone allow no more of the buffer than there is on completion."""
    rows = alone(plant, receipts, buffer)
    _, totals, _ = completed(plant, receipts)
    return tuple([material for material, units in rows if (buffer, units) in totals])
