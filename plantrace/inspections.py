"""Inspections of the tools of a stage, and how many units may be affected in between.

A plan is a calendar whose hours are cycles: cycle n + 1 is to be inspected if
increment n is 1.
"""

from plantrace.capacity import fitting
from plantrace.curves import advanced, composed, value
from plantrace.hours import any_open
from plantrace.impact import greatest_gap, impact_curves
from plantrace.inverses import lower_at, lower_inverse
from plantrace.plants import INPUTS, OUTPUTS


def inspections(plant, stage, place, plan, many):
    """The inspections 0 to many, as cycles."""
    consumption = plant[stage][INPUTS][place][1]
    before, inspected = inspected_cycles(consumption, plan)
    return tuple([lower_at(inspected, before + number) for number in range(many + 1)])


def inspected_cycles(consumption, plan):
    """How many cycles are inspected up to inspection 0, and the curve that counts the inspected ones."""
    later = advanced(consumption, 1)
    inspected = any_open(plan, (0,) + later[1:])
    # If inspection 0 is a cycle at all, the next one takes a tool, so it is inspected itself.
    return value(inspected, lower_at(consumption, 1) - 1), inspected


def exposure(plant, stage, place, plan):
    """The greatest number of units that come from the cycles of one interval, and the least such interval."""
    consumption = plant[stage][INPUTS][place][1]
    buffer, production, _ = plant[stage][OUTPUTS][0]
    completion, influence = impact_curves(plant, buffer)
    before, inspected = inspected_cycles(consumption, plan)
    cycles = advanced(lower_inverse(inspected), before)
    completed_by = by_inspection(production, completion, cycles)
    influenced_by = by_inspection(production, influence, advanced(cycles, 1))
    return greatest_gap(influenced_by, completed_by)


def by_inspection(production, impact, cycles):
    """The impact curve at what the stage has produced at the inspections' cycles."""
    by_cycle = fitting(composed((production, impact)))
    return fitting(composed((cycles, by_cycle)))
