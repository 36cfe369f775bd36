"""Convergent plants, and impact worked out by following what units contain, or value by value.

Nothing here is taken from the program.
"""

from tests.plain import contained, lower, step, upper, value


def rising(maker, high):
    """A flow curve without an increment of 0."""
    return 0, tuple(maker.number(1, high) for _ in range(maker.number(0, 3))), tuple(
        maker.number(1, high) for _ in range(maker.number(1, 3)))


def convergent(maker, *, high=3, most=4):
    """A convergent plant: its stages read buffers of earlier stages or materials, none is a second output."""
    numbers = maker.random.sample(range(20), 20)
    waiting, stages = [], []
    for _ in range(maker.number(1, most)):
        feeds = []
        for _ in range(maker.number(1, 3)):
            tool = maker.choice((True, False, False))
            flow = maker.flow(high=1) if tool else rising(maker, high)
            feeds.append((maker.source(waiting, numbers), flow, maker.number(0, 4), tool))
        buffer = numbers.pop()
        waiting.append(buffer)
        maker.random.shuffle(waiting)
        output = buffer, rising(maker, high), maker.number(0, 5)
        stages.append((tuple(feeds), (output,), (0, (), (1,)), (0, (), (2,)), 1, (0, (), (1, 0))))
    return tuple(stages)


def plain_path(plant, buffer):
    """The pairs of an input and an output from the buffer on, stage by stage."""
    steps = []
    for feeds, outputs, *_ in plant:
        for feed in feeds:
            if feed[0] == buffer:
                steps.append((feed, outputs[0]))
                buffer = outputs[0][0]
                break
    return steps


def plain_end(plant, buffer):
    steps = plain_path(plant, buffer)
    return steps[-1][1][0] if steps else buffer


def inside(plant, buffer, unit):
    """The units of the buffer that a unit at the end of its path contains."""
    found = set()
    contained(plant, ("unit", plain_end(plant, buffer), unit), found, set())
    return {part[2] for part in found if part[:2] == ("unit", buffer)}


class Contents:
    """What the units at the end of a buffer's path contain, unit by unit as far as needed."""

    def __init__(self, plant, buffer):
        self.plant, self.buffer, self.rows = plant, buffer, []

    def of(self, unit):
        while len(self.rows) < unit:
            self.rows.append(inside(self.plant, self.buffer, len(self.rows) + 1))
        return self.rows[unit - 1]

    def completion(self, x):
        """How many units at the end contain no unit beyond x, before the first one that does."""
        unit = 1
        while all(part <= x for part in self.of(unit)):
            unit += 1
        return unit - 1

    def influence(self, x):
        """The last unit at the end that contains unit x, looked for until only later ones are contained."""
        unit, last = 1, None
        while not self.of(unit) or min(self.of(unit)) <= x:
            if x in self.of(unit):
                last = unit
            unit += 1
        return last


def values_behind(plant, buffer, points):
    """The values of completion and influence at 0 to points - 1 at each buffer of the path, as lists."""
    heights = list(range(points)), list(range(points))
    found = [heights]
    for (_, consumption, stock, tool), (_, production, _) in plain_path(plant, buffer):
        completion = [value(production, upper(consumption, x + stock)) for x in heights[0]]
        last = upper if tool else lower
        influence = [value(production, last(consumption, x + stock)) for x in heights[1]]
        heights = completion, influence
        found.append(heights)
    return found


def takes_tool(feed, cycle):
    return step(feed[1], cycle - 1) == 1


def plain_inspections(plant, s, i, plan, many):
    """Cycle by cycle: the inspections 0 to many."""
    feed, cycle = plant[s][0][i], 1
    while not takes_tool(feed, cycle):
        cycle += 1
    found = [cycle - 1]
    while len(found) <= many:
        if step(plan, cycle - 1) == 1 or takes_tool(feed, cycle + 1):
            found.append(cycle)
        cycle += 1
    return tuple(found)
