"""Bills of materials: what products need of their items, and the plant that makes them.

An item is (components, production, stock), a component (item, consumption).
"""

from plantrace.completion import MOST
from plantrace.curves import IDENTITY, ZERO, value
from plantrace.errors import BadBill, TooMuch
from plantrace.inverses import lower_at
from plantrace.routings import shares

MOST_PRODUCTS = 60


def check_bill(bill):
    """Raises BadBill with the least item that is wrong, if there is one."""
    for item, (components, _, _) in enumerate(bill):
        parts = [part for part, _ in components]
        if len(set(parts)) < len(parts) or any([part >= item for part in parts]):
            raise BadBill(item)


def exploded(bill, mix, many):
    """The gross and the net requirements and the planned cycles for the first products."""
    check_bill(bill)
    gross, net, planned = explosion(bill, mix, many)
    if is_too_many(gross, planned):
        raise TooMuch(f"{many} products are too many")
    return tuple(gross), tuple(net), tuple(planned)


def explosion(bill, mix, many):
    """The lists of the gross and net requirements and planned cycles, of any size."""
    gross = occurrences(bill, mix, many)
    net = [0] * len(bill)
    planned = [0] * len(bill)
    for item in reversed(range(len(bill))):
        components, production, stock = bill[item]
        net[item] = max(0, gross[item] - stock)
        if components:
            planned[item] = lower_at(production, net[item])
        for part, consumption in components:
            gross[part] += value(consumption, planned[item])
    return gross, net, planned


def occurrences(bill, mix, many):
    """For each item how often it occurs among the first products."""
    return [value(share, many) for share in shares(mix, len(bill))]


def is_too_many(gross, planned):
    """True if the products with these requirements and cycles are too many."""
    return max(gross) > MOST or max(planned) > MOST


def buildable(bill, mix, available):
    """The greatest number of first products for which enough is available."""
    check_bill(bill)
    most = range(MOST_PRODUCTS + 1)
    return max([many for many in most if is_buildable(bill, mix, many, available)])


def is_buildable(bill, mix, many, available):
    """True if the first products are not too many and enough is available for them."""
    gross, net, planned = explosion(bill, mix, many)
    short = [not item[0] and need > there for item, need, there in zip(bill, net, available)]
    return not is_too_many(gross, planned) and not any(short)


def covers(bill, mix, many, available, cycles):
    """True if with so many cycles of the items there is enough for the first products."""
    check_bill(bill)
    needed = occurrences(bill, mix, many)
    for (components, _, _), ran in zip(bill, cycles):
        for part, consumption in components:
            needed[part] += value(consumption, ran)
    for (components, production, stock), need, there, ran in zip(bill, needed, available, cycles):
        if need > stock + (value(production, ran) if components else there):
            return False
    return True


def bill_plant(bill):
    """The plant with a stage for each manufactured item, or None."""
    check_bill(bill)
    parts = [part for components, _, _ in bill for part, _ in components]
    if not parts or len(set(parts)) < len(parts):
        return None
    return tuple([item_stage(bill, item) for item in range(len(bill)) if bill[item][0]])


def item_stage(bill, item):
    """The stage that makes the item."""
    components, production, _ = bill[item]
    feeds = tuple([(part, consumption, bill[part][2], False) for part, consumption in components])
    return feeds, ((item, production, 1),), ZERO, ZERO, 1, IDENTITY
