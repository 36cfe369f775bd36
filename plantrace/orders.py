"""Orders: who gets which units, when, and how late.

An order is (product, quantity, due), a sequence a tuple of numbers of orders.
"""


def order_of(orders, sequence, product, unit):
    """The number of the order that gets the unit, or None."""
    for order, (first, last) in zip(sequence, spans(orders, sequence)):
        if orders[order][0] == product and first <= unit <= last:
            return order
    return None


def spans(orders, sequence):
    """The pairs of the first and the last unit of the orders, as they stand in the sequence."""
    given = {}
    rows = []
    for order in sequence:
        product, quantity, _ = orders[order]
        before = given.get(product, 0)
        given[product] = before + quantity
        rows.append((before + 1, before + quantity))
    return rows


def dates(orders, sequence, availability):
    """The rows (first unit, last unit, date, on time) of the orders, as they stand in the sequence."""
    hours = dict(availability)
    rows = []
    for order, (first, last) in zip(sequence, spans(orders, sequence)):
        product, _, due = orders[order]
        there = hours.get(product, ())
        date = there[last - 1] if last <= len(there) else None
        rows.append((first, last, date, date is not None and date <= due))
    return tuple(rows)


def earliest_due_date(orders):
    """The sequence of all orders by their due hours."""
    return tuple([order for _, order in sorted([(due, order) for order, (_, _, due) in enumerate(orders)])])


def greatest_lateness(orders, sequence, availability):
    """The greatest lateness of the orders of the sequence, or None if one has no date."""
    latest = 0
    for order, (_, _, date, _) in zip(sequence, dates(orders, sequence, availability)):
        if date is None:
            return None
        latest = max(latest, date - orders[order][2])
    return latest


def shortfall(orders, availability, *, late=0):
    """The first (product, hour, needed, there) with fewer units than the orders due need, or None."""
    hours = dict(availability)
    # What is needed rises at due hours alone, so the first hour with too little is one of them.
    for product, hour in sorted({(product, due) for product, _, due in orders}):
        needed = sum([quantity for other, quantity, due in orders if other == product and due <= hour])
        there = len([at for at in hours.get(product, ()) if at <= hour + late])
        if needed > there:
            return product, hour, needed, there
    return None


def expedited(orders, sequence, order, totals):
    """The sequence in which the order is expedited."""
    if has_started(orders, sequence, order, totals):
        return sequence
    waiting = [
        other for other in sequence
        if orders[other][0] == orders[order][0] and not has_started(orders, sequence, other, totals)
    ]
    place = sequence.index(waiting[0])
    rest = tuple([other for other in sequence if other != order])
    return rest[:place] + (order,) + rest[place:]


def has_started(orders, sequence, order, totals):
    """True if the first unit of the order exists when there are so many units of each product."""
    product, _, _ = orders[order]
    first, _ = spans(orders, sequence)[sequence.index(order)]
    return first <= dict(totals).get(product, 0)
