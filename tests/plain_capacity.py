"""The curves that point 82 names, worked out point by point, and how many elements they have.

Nothing here is taken from the program.
"""

from tests.plain import readers, sources, step, values

POINTS = 1600


def upper_values(consumption, behind):
    """The upper inverses at 0 to behind - 1, cycle by cycle."""
    found, cycles, used = [], 0, 0
    for units in range(behind):
        while used + step(consumption, cycles) <= units:
            used += step(consumption, cycles)
            cycles += 1
        found.append(cycles)
    return found


def size(heights):
    """The elements of transient part and period of a curve with these values; 101 if more than 100."""
    steps = [after - before for before, after in zip(heights, heights[1:])]
    for many in range(1, 101):
        if any(steps[many - period:len(steps) - period] == steps[many:] for period in range(1, many + 1)):
            return many
    return 101


def named_curves(plant, points=POINTS):
    """The values of all named curves, by their names, and of cycle capacities, by ("cycles", stage, material)."""
    heights = {(material, material): list(range(points)) for material in sources(plant)}
    found = {}
    for number, (feeds, outputs, *_) in enumerate(plant):
        for place, feed in enumerate(feeds):
            found["inverse", number, place] = upper_values(feed[1], points)
        for place, output in enumerate(outputs):
            found["production", number, place] = values(output[1], points)
        for material in sorted({other for buffer, other in heights if (number, buffer) in readers(plant)}):
            joint = joint_values(number, feeds, material, heights, found)
            found["cycles", number, material] = joint
            for buffer, production, _ in outputs:
                made = values(production, joint[-1] + 1)
                heights[buffer, material] = [made[cycles] for cycles in joint]
                found["buffer", number, material, buffer] = heights[buffer, material]
    return found


def joint_values(number, feeds, material, heights, found):
    """The cycle capacity of a stage; the input and joint capacities are added to what is found."""
    joint, many = None, 0
    for place, (buffer, consumption, stock, _) in enumerate(feeds):
        if (buffer, material) in heights:
            there = heights[buffer, material]
            supported = upper_values(consumption, there[-1] + stock + 1)
            capacity = [supported[units + stock] for units in there]
            found["input", number, material, place] = capacity
            many += 1
            joint = capacity if joint is None else [min(pair) for pair in zip(joint, capacity)]
            if many > 1:
                found["joint", number, material, many] = joint
    return joint


def sizes(plant):
    """The elements of each named curve, by their names."""
    return {name: size(heights) for name, heights in named_curves(plant).items() if name[0] != "cycles"}
