"""Allocation: how units are best routed to the branches from which products are made."""

from math import gcd

from plantrace.curves import gain, increment, reach, total
from plantrace.inverses import upper_inverse
from plantrace.routings import branch, normal_routing


def optimal_output(demands):
    """The curve of the greatest number of products that so many units support."""
    return upper_inverse(total(demands))


def optimal_routing(demands):
    """The routing that serves product after product, and in each of them branch after branch."""
    start, common = reach(demands)
    return normal_routing((served(demands, 0, start), served(demands, start, start + common)))


def served(demands, first, behind):
    """The branches of the units for the products from the first one on, one behind another."""
    units = []
    for made in range(first, behind):
        for number, many in enumerate(needed(demands, made)):
            units.extend([number] * many)
    return tuple(units)


def needed(demands, made):
    """How many units of each branch the next product needs when so many have been made."""
    return [increment(demand, made) for demand in demands]


def first_loss(routing, demands):
    """The least number of units at which the routing supports too few products, or None.

    The optimal output rises only where the units are as many as some products need
    together. So there is no loss as long as the routing gives product after product
    just the units that it needs.
    """
    transient, period = normal_routing(routing)
    start, common = reach(demands)
    rise = sum([gain(demand, common) for demand in demands])
    rounds = len(period) // gcd(rise, len(period))
    made, routed, last = 0, 0, None
    while last is None or made < last:
        if last is None and made >= start and routed >= len(transient):
            # Behind so many products demands and routing are together where they are now.
            last = made + common * rounds
        wanted = needed(demands, made)
        behind = routed + sum(wanted)
        if routed_units((transient, period), routed, behind, len(demands)) != wanted:
            return behind
        made += 1
        routed = behind
    return None


def routed_units(routing, first, behind, many):
    """How many of the units from the first one on go to each of so many branches."""
    units = [0] * many
    for unit in range(first, behind):
        units[branch(routing, unit)] += 1
    return units
