"""Completion: what a plant makes of receipts once no stage can run any more."""

from plantrace.curves import value
from plantrace.errors import TooMuch
from plantrace.plants import INPUTS, OUTPUTS, materials
from plantrace.stages import supported

MOST = 1000


def completed(plant, receipts):
    """On completion the cycles of the stages, the totals of the buffers, the units on hand."""
    totals = received(plant, receipts)
    cycles = []
    for stage in plant:
        many = supported(stage, totals_read(stage, totals))
        cycles.append(many)
        totals.update(totals_written(stage, many))
    require_at_most(MOST, cycles, totals)
    hands = [on_hand(stage, totals, many) for stage, many in zip(plant, cycles)]
    return tuple(cycles), tuple(sorted(totals.items())), tuple(hands)


def require_at_most(most, cycles, units):
    """Raises TooMuch if a stage has more cycles, or some buffer more units, than told."""
    if max(cycles) > most or max(units.values()) > most:
        raise TooMuch(f"more than {most} cycles of a stage or units of a buffer")


def received(plant, receipts):
    """For each material the number of units received."""
    units = dict(receipts)
    return {material: units.get(material, 0) for material in materials(plant)}


def totals_read(stage, totals):
    """The totals of the buffers of the stage's inputs, in order."""
    return tuple([totals[feed[0]] for feed in stage[INPUTS]])


def totals_written(stage, many):
    """For each buffer that the stage writes its total when the stage has run so many cycles."""
    return {buffer: value(production, many) for buffer, production, _ in stage[OUTPUTS]}


def totals_behind(plant, receipts, cycles):
    """The totals of all buffers with these receipts when the stages have run these cycles."""
    totals = dict(received(plant, receipts))
    for stage, many in zip(plant, cycles):
        totals.update(totals_written(stage, many))
    return totals


def on_hand(stage, totals, many):
    """The units on hand in front of the stage's inputs when it has run so many cycles."""
    return tuple([
        totals[buffer] + stock - value(consumption, many)
        for buffer, consumption, stock, _ in stage[INPUTS]
    ])


def runnable(plant, receipts, cycles):
    """The numbers of the stages that are runnable when the stages have run these cycles."""
    totals = totals_behind(plant, receipts, cycles)
    return tuple([
        number for number, (stage, many) in enumerate(zip(plant, cycles))
        if supported(stage, totals_read(stage, totals)) > many
    ])


def is_balanced(plant, receipts, totals):
    """True if the totals of all buffers are those that they themselves bring about."""
    given = dict(totals)
    wanted = received(plant, receipts)
    for stage in plant:
        wanted.update(totals_written(stage, supported(stage, totals_read(stage, given))))
    return given == wanted
