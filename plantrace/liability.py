"""Liability: what scenarios cost, and which fault answers for how much of it."""

from plantrace.costs import apportioned, played_costs
from plantrace.diagnosis import all_marks, fitting_scenarios, harm_together, harms_of, meant_units
from plantrace.diagnosis import product_units, verdicts, worst_rows
from plantrace.faults import marks


def damage(state, scenario):
    """The cost of all units of products that are defective in the scenario."""
    return sum(liabilities(state, scenario))


def liabilities(state, scenario):
    """What each fault of the scenario answers for, in their order."""
    costs, _ = played_costs(state)
    affecting = marks(state, scenario)
    totals = [0] * len(scenario)
    for unit in product_units(state, affecting):
        weights = [affecting[unit] >> k & 1 for k in range(len(scenario))]
        totals = [before + share for before, share in zip(totals, apportioned(costs[unit], weights))]
    return tuple(totals)


def recall_cost(state, observations, *, most=1):
    """The cost of the recalled units, of those that must be defective, and the greatest damage."""
    costs, _ = played_costs(state)
    may, must = verdicts(state, observations, most)
    worst = worst_scenario(state, observations, most=most)
    greatest = None if worst is None else damage(state, worst)
    return sum([costs[unit] for unit in may]), sum([costs[unit] for unit in must]), greatest


def worst_scenario(state, observations, *, most=1):
    """The first consistent scenario of worst cases with the greatest damage, or None."""
    costs, _ = played_costs(state)
    affecting = all_marks(state)
    units = product_units(state, affecting)
    rows, wanted = worst_rows(state, observations)
    harms = harms_of(units, affecting, rows)
    best, greatest = None, None
    for scenario in fitting_scenarios(rows, wanted, most):
        hurt = meant_units(units, harm_together(scenario, harms))
        amount = sum([costs[unit] for unit in hurt])
        if greatest is None or amount > greatest:
            best, greatest = scenario, amount
    return None if best is None else tuple([fault for fault, _, _ in best])
