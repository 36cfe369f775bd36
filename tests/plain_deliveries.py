"""Deliveries, completed one by one, and the curves that point 262 names, number by number of deliveries.

Nothing here is taken from the program.
"""

from tests.plain import Floor, sources, values
from tests.plain_capacity import size, upper_values


def behind(plant, deliveries, n):
    """What the document calls the triple of the completion, behind n deliveries; None beyond 1000."""
    floor = Floor(plant)
    floor.complete(tuple((material, values(curve, n + 1)[n]) for material, curve in deliveries))
    return None if floor.is_too_much() else floor.outcome()


def named_curves(plant, deliveries, points):
    """The values of all named curves at 0 to points - 1, and of the curves of cycles, by their names."""
    given = dict(deliveries)
    heights = {material: values(given.get(material, (0, (), (0,))), points) for material in sources(plant)}
    found = {}
    for s, (feeds, outputs, *_) in enumerate(plant):
        joint = None
        for i, (buffer, consumption, stock, _) in enumerate(feeds):
            found["inverse", s, i] = upper_values(consumption, points)
            supported = upper_values(consumption, heights[buffer][-1] + stock + 1)
            supply = found["supply", s, i] = [supported[units + stock] for units in heights[buffer]]
            joint = supply if joint is None else [min(pair) for pair in zip(joint, supply)]
            found["joint", s, i + 1] = joint
        found["cycles", s] = joint
        for o, (buffer, production, _) in enumerate(outputs):
            found["production", s, o] = values(production, points)
            made = values(production, joint[-1] + 1)
            found["buffer", s, buffer] = heights[buffer] = [made[cycles] for cycles in joint]
        for i, (buffer, consumption, stock, _) in enumerate(feeds):
            used = values(consumption, joint[-1] + 1)
            use = found["use", s, i] = [used[cycles] for cycles in joint]
            found["hand", s, i] = [units + stock - gone for units, gone in zip(heights[buffer], use)]
    return found


def sizes(plant, deliveries, points=700):
    """The elements of each curve that the document names, by their names."""
    found = named_curves(plant, deliveries, points)
    return {
        name: size(heights) for name, heights in found.items()
        if name[0] not in ("cycles", "hand") and not (name[0] == "joint" and name[2] == 1)
    }
