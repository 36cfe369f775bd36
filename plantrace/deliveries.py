"""Deliveries: how many units stand in front of the inputs, whatever number of deliveries have come.

All the curves here tell numbers by the number of deliveries.
"""

from plantrace.capacity import cycles_supported, fitting, joint_minimum
from plantrace.curves import ZERO, composed, gaps, is_slower, raised, reach
from plantrace.inverses import upper_inverse
from plantrace.plants import INPUTS, OUTPUTS, materials, products


def buffer_capacities(plant, deliveries):
    """The curves of cycles, those of the products, and the capacities needed in front of the inputs."""
    curves = {material: ZERO for material in materials(plant)}
    curves.update(dict(deliveries))
    cycles, needs = [], []
    for stage in plant:
        cycles.append(joint_supply(stage[INPUTS], curves))
        needs.append(tuple([capacity_needed(feed, curves[feed[0]], cycles[-1]) for feed in stage[INPUTS]]))
        curves.update({
            buffer: fitting(composed((cycles[-1], fitting(production)))) for buffer, production, _ in stage[OUTPUTS]
        })
    return tuple(cycles), tuple([(product, curves[product]) for product in products(plant)]), tuple(needs)


def joint_supply(feeds, curves):
    """The number of cycles that all the inputs support."""
    joint = None
    for buffer, consumption, stock, _ in feeds:
        supply = cycles_supported(curves[buffer], stock, fitting(upper_inverse(consumption)))
        joint = supply if joint is None else joint_minimum(joint, supply)
    return joint


def capacity_needed(feed, units, cycles):
    """The greatest number of units on hand and the least number of deliveries with it, or None."""
    _, consumption, stock, _ = feed
    there = raised(units, stock)
    used = fitting(composed((cycles, consumption)))
    if is_slower(used, there):
        return None
    hands = gaps(there, used, sum(reach((there, used))))
    return max(hands), hands.index(max(hands))
