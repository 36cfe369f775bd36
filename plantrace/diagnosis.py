"""Diagnosis: what may be defective and what must be, when at most so many faults have happened.

Of the observations it only matters which faults they blame: a fault that an exonerating
one blames is ruled out, and each incriminating one must blame one of the faults. So a
fault that is not ruled out is a row (fault, hits, number): bit k of its hits is 1 if
incriminating observation k blames it, and its number is that among all possible faults.
"""

from plantrace.faults import EXONERATING, blame, cause_of, followers, marks, possible_faults
from plantrace.plants import products
from plantrace.ranges import ranges_of
from plantrace.records import require_unit

LEAST_MOST = 3


def worst_cases(state, observations):
    """The worst cases, in the order of causes."""
    rows, _ = worst_rows(state, observations)
    return tuple([fault for fault, _, _ in rows])


def recall(state, observations, *, most=1):
    """The ranges of the units of each product that may be defective, and of those that must be."""
    may, must = verdicts(state, observations, most)
    return product_ranges(state, may), product_ranges(state, must)


def product_ranges(state, units):
    """The pairs (product, ranges) of the units, for all products."""
    plant, _, _ = state
    return tuple([
        (product, ranges_of([unit for buffer, unit in units if buffer == product]))
        for product in products(plant)
    ])


def verdicts(state, observations, most):
    """The units (product, unit) that may be defective, and those that must be."""
    affecting = all_marks(state)
    units = product_units(state, affecting)
    rows, wanted = clues(state, observations, affecting)
    harms = harms_of(units, affecting, rows)
    scenarios = fitting_scenarios(rows, wanted, most)
    may, must = 0, -1 if scenarios else 0
    for scenario in scenarios:
        hurt = harm_together(scenario, harms)
        may |= hurt
        must &= hurt
    return meant_units(units, may), meant_units(units, must)


def product_units(state, affecting):
    """The existing units (product, unit) of the products."""
    plant, _, _ = state
    ends = products(plant)
    return [(buffer, unit) for buffer, unit in affecting if buffer in ends]


def meant_units(units, mark):
    """The units whose bits are 1."""
    return [unit for k, unit in enumerate(units) if mark >> k & 1]


def harms_of(units, affecting, rows):
    """By the number of each row's fault the mark of the units that it affects."""
    found = {number: 0 for _, _, number in rows}
    for k, unit in enumerate(units):
        blamed = affecting[unit]
        for _, _, number in rows:
            found[number] |= (blamed >> number & 1) << k
    return found


def harm_together(scenario, harms):
    """The mark of the units that one of the scenario's faults affects."""
    together = 0
    for _, _, number in scenario:
        together |= harms[number]
    return together


def suspects(state, observations, *, most=1):
    """The causes at fault in a consistent scenario, with the cycles of their breaks, and if in all."""
    rows, wanted = clues(state, observations, all_marks(state))
    scenarios = fitting_scenarios(rows, wanted, most)
    faults = {}
    for scenario in scenarios:
        for fault, _, _ in scenario:
            faults.setdefault(cause_of(fault), []).append(fault)
    found = []
    for cause, blamed in sorted(faults.items()):
        cycles = [fault[4] for fault in blamed if fault[0] == "tool"]
        span = (min(cycles), max(cycles)) if cycles else ()
        found.append(cause + span + (len(blamed) == len(scenarios),))
    return tuple(found)


def least_scenario(state, observations):
    """The first consistent scenario of at most 3 worst cases, or None."""
    return first_scenario(state, observations, LEAST_MOST)


def explanations(state, observations, buffer, unit, *, most=1):
    """The first scenario that makes the unit defective, and the first one that leaves it sound."""
    require_unit(state, buffer, unit)
    return (
        first_scenario(state, observations + (("defective", buffer, unit),), most),
        first_scenario(state, observations + (("sound", buffer, unit),), most),
    )


def first_scenario(state, observations, most):
    """The first consistent scenario of at most so many worst cases, or None."""
    rows, wanted = worst_rows(state, observations)
    # The first scenario has as few faults as can be, and of those with the same hits
    # the first one: another one could be left out, or replaced by it.
    first = {}
    for row in rows:
        first.setdefault(row[1], row)
    scenarios = fitting_scenarios(list(first.values()), wanted, most)
    return tuple([fault for fault, _, _ in scenarios[0]]) if scenarios else None


def all_worst_fit(state, observations):
    """True if the scenario of all worst cases is consistent with all observations."""
    rows, wanted = worst_rows(state, observations)
    together = 0
    for _, hits, _ in rows:
        together |= hits
    return together == wanted


def worst_rows(state, observations):
    """The rows of the worst cases, and the hits that are wanted."""
    rows, wanted = clues(state, observations, all_marks(state))
    worst = {}
    for row in rows:
        worst.setdefault(cause_of(row[0]), row)
    return list(worst.values()), wanted


def all_marks(state):
    """For each existing unit the mark of the possible faults that affect it."""
    return marks(state, possible_faults(state))


def clues(state, observations, affecting):
    """The rows of all faults that are not ruled out, in order, and the hits that are wanted."""
    faults = possible_faults(state)
    ruled_out, hits, wanted = 0, [0] * len(faults), 0
    for observation in observations:
        blamed = blame(state, faults, affecting, observation)
        if observation[0] in EXONERATING:
            ruled_out |= blamed
        else:
            wanted = 2 * wanted + 1
            hits = [2 * hit + (blamed >> number & 1) for number, hit in enumerate(hits)]
    rows = [(fault, hits[number], number) for number, fault in enumerate(faults) if not ruled_out >> number & 1]
    return rows, wanted


def fitting_scenarios(rows, wanted, most):
    """The choices of at most so many rows with different causes that have all wanted hits.

    Fewer rows come first, then the choices in the order of their rows.
    """
    follow = followers([fault for fault, _, _ in rows])
    found = [()] if wanted == 0 else []
    choices = [((), 0, 0)]
    for _ in range(most):
        choices = [
            (chosen + (row,), hits | row[1], follow[at])
            for chosen, hits, begin in choices for at, row in enumerate(rows[begin:], start=begin)
        ]
        found.extend([chosen for chosen, hits, _ in choices if hits == wanted])
    return found
