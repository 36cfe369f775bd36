"""Disruptions: what they change in a plant, how much they may cost, and with which receipts."""

from plantrace.capacity import capacity_tables
from plantrace.curves import increment, increments, normal, value
from plantrace.deviations import first_above, vertical
from plantrace.inverses import lower_at
from plantrace.plants import COST, DURATION, INPUTS, OUTPUTS, depends

PARTS = {"yield": OUTPUTS, "extra": INPUTS, "slow": DURATION, "cost": COST}


def disrupted(plant, cycles, disruption):
    """The changed plant, or None if the disruption is not applicable behind these cycles."""
    word, number, *places, cycle, amount = disruption
    if number >= len(plant) or cycle <= cycles[number]:
        return None
    stage, part = plant[number], PARTS[word]
    if places:
        changed = disrupted_rows(stage[part], places[0], word, cycle, amount)
    else:
        changed = with_more(stage[part], cycle, amount)
    return None if changed is None else replaced(plant, number, replaced(stage, part, changed))


def disrupted_rows(rows, place, word, cycle, amount):
    """The changed outputs (yield) or inputs (extra) of a stage, or None."""
    if place >= len(rows):
        return None
    flow = rows[place][1]
    there = increment(flow, cycle - 1)
    if word == "yield":
        fits, more = there >= amount, -amount
    else:
        tool = rows[place][3]
        fits, more = not tool or (there == 0 and amount == 1), amount
    if not fits:
        return None
    return replaced(rows, place, replaced(rows[place], 1, with_more(flow, cycle, more)))


def replaced(members, at, other):
    """The tuple with another member at this place."""
    return members[:at] + (other,) + members[at + 1:]


def with_more(curve, cycle, amount):
    """The normal form of the curve with an increment that is greater by the amount."""
    initial, transient, period = curve
    many = max(len(transient), cycle)
    steps = increments(curve, many)
    steps[cycle - 1] += amount
    turn = (many - len(transient)) % len(period)
    return normal((initial, tuple(steps), period[turn:] + period[:turn]))


def loss(plant, changed, buffer):
    """The loss of the buffer by changing the plant, or None if it has no bound."""
    rows = losses_by_material(plant, changed, buffer)
    amounts = [amount for _, _, _, amount in rows]
    return None if None in amounts else max(amounts)


def losses_by_material(plant, changed, buffer):
    """For each material on which the buffer depends both capacity curves and their deviation."""
    before, _ = capacity_tables(plant)
    after, _ = capacity_tables(changed)
    rows = []
    for material in depends(plant, buffer):
        first, second = before[(buffer, material)], after[(buffer, material)]
        rows.append((material, first, second, vertical(first, second)))
    return rows


def worst_receipts(plant, changed, buffer):
    """The receipts, of the materials on which the buffer depends, with the greatest loss, or None."""
    rows = losses_by_material(plant, changed, buffer)
    amounts = [amount for _, _, _, amount in rows]
    if None in amounts or max(amounts) == 0:
        return None
    worst, first, second, amount = rows[amounts.index(max(amounts))]
    units = first_above(first, second, amount - 1)
    wanted = value(first, units)
    return tuple([
        (material, units if material == worst else lower_at(curve, wanted))
        for material, curve, _, _ in rows
    ])
