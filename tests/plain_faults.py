"""Faults, observations and scenarios, worked out from a state that is run out reference by reference.

Nothing here is taken from the program.
"""

import itertools

from tests.plain import Story, ranges, readers, writers

EXONERATING = ("sound", "intact", "good")


class History:
    """What a state's units contain, and which tool was in use at which of its cycles."""

    def __init__(self, state):
        self.plant, self.lots, self.cycles = state
        story = Story(self.plant)
        self.lot_units = []
        for material, quantity, _ in self.lots:
            first = story.totals[material] + 1
            story.play(("receive", material, quantity))
            self.lot_units.append({("unit", material, unit) for unit in range(first, first + quantity)})
        self.tools = {}
        for s, many in enumerate(self.cycles):
            for n in range(1, many + 1):
                assert story.play(("run", s))
                self.note_tools(story, s, n)
        self.totals = story.totals
        self.rows = story.rows
        self.contents = {unit: {unit} for units in self.lot_units for unit in units}
        self.contents.update(story.contents())

    def note_tools(self, story, s, n):
        for i, feed in enumerate(self.plant[s][0]):
            tool = story.tools[s, i]
            if tool:
                self.tools[s, i, n] = tool[3] if tool[0] == "initial" else tool[2] + feed[2]

    def products(self):
        read = {buffer for _, buffer in readers(self.plant)}
        return sorted({buffer for _, buffer in writers(self.plant)} - read)

    def causes(self):
        """Cause by cause: a lot, or a tool with the first and the last cycle at which it was in use."""
        found = {}
        for (s, i, n), position in sorted(self.tools.items()):
            found.setdefault((s, i, position), []).append(n)
        rows = [("lot", lot) for lot in range(len(self.lots))]
        return tuple(rows + [("tool", *key, min(cycles), max(cycles)) for key, cycles in sorted(found.items())])

    def faults(self):
        """All possible faults, in their order."""
        tools = sorted((s, i, position, n) for (s, i, n), position in self.tools.items())
        return [("lot", lot) for lot in range(len(self.lots))] + [("tool", *tool) for tool in tools]

    def affected(self, fault):
        """The references of the existing units that the fault affects."""
        if fault[0] == "lot":
            causing = self.lot_units[fault[1]]
        else:
            _, s, i, position, begin = fault
            cycles = {n for (t, j, n), at in self.tools.items() if (t, j, at) == (s, i, position) and n >= begin}
            causing = {("unit", *row[:2]) for row in self.rows if row[2] == s and row[3] in cycles}
        return {unit for unit, inside in self.contents.items() if inside & causing}

    def defective(self, scenario):
        return set().union(*(self.affected(fault) for fault in scenario))

    def is_valid(self, observation):
        word, *what = observation
        if word in ("good", "bad"):
            return what[0] < len(self.lots)
        if word in ("sound", "defective"):
            return ("unit", *what) in self.contents
        return tuple(what) in self.tools

    def observations(self):
        """All valid observations."""
        found = [(word, *unit[1:]) for unit in self.contents for word in ("sound", "defective")]
        found += [(word, *key) for key in self.tools for word in ("intact", "broken")]
        return found + [(word, lot) for lot in range(len(self.lots)) for word in ("good", "bad")]

    def blames(self, fault, observation):
        """True if, with this fault, the unit is defective, the tool broken, the lot bad."""
        word, *what = observation
        if word in ("good", "bad"):
            return fault == ("lot", *what)
        if word in ("sound", "defective"):
            return ("unit", *what) in self.affected(fault)
        s, i, n = what
        return fault[:4] == ("tool", s, i, self.tools[s, i, n]) and fault[4] <= n

    def is_consistent(self, scenario, observation):
        there = any(self.blames(fault, observation) for fault in scenario)
        return there != (observation[0] in EXONERATING)

    def fits(self, scenario, observations):
        return all(self.is_consistent(scenario, observation) for observation in observations)

    def scenarios(self, most, faults=None):
        """All scenarios of at most so many of the faults, one by one."""
        faults = self.faults() if faults is None else faults
        for many in range(most + 1):
            for scenario in itertools.combinations(faults, many):
                if len({fault[:4] for fault in scenario}) == many:
                    yield scenario

    def worst_cases(self, observations):
        """The lots and the earliest breaks that no exonerating observation rules out."""
        exonerating = [observation for observation in observations if observation[0] in EXONERATING]
        found = {}
        for fault in self.faults():
            if self.fits((fault,), exonerating):
                found.setdefault(fault[:4], fault)
        return tuple(found.values())


class Known(History):
    """A history that works out each answer about single faults only once."""

    def __init__(self, state):
        super().__init__(state)
        self.known = {}

    def affected(self, fault):
        if fault not in self.known:
            self.known[fault] = super().affected(fault)
        return self.known[fault]


def ranges_by_buffer(units):
    """The pairs (buffer, ranges) of some references to units."""
    names = sorted({unit[1] for unit in units})
    return tuple((name, ranges(unit[2] for unit in units if unit[1] == name)) for name in names)


def tooled(maker):
    """A right plant in which about every second input is a tool input."""
    plant = maker.plant()
    stages = []
    for feeds, *others in plant:
        made = []
        for buffer, flow, stock, tool in feeds:
            if maker.number(0, 1):
                flow, tool = maker.flow(high=1), True
            made.append((buffer, flow, stock, tool))
        stages.append((tuple(made), *others))
    return tuple(stages)


def shop_state(maker, yard, fewest, most):
    """A state with so many possible faults, some of them of tools, and its history."""
    while True:
        state, _ = yard.state(tooled(maker))
        history = Known(state)
        faults = history.faults()
        if fewest <= len(faults) <= most and faults[-1][0] == "tool":
            return state, history
