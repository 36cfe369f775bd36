"""Picking: plant events, run out unit by unit by a rule that tells which unit is taken next.

A plant event is ("receive", material, units) or ("run", stage).
"""

from plantrace.curves import IDENTITY, ZERO, increment
from plantrace.errors import CannotRun
from plantrace.plants import INPUTS, OUTPUTS, buffers, reader_places
from plantrace.records import reference


class Floor:
    """A plant, and the references of the units that wait in front of its inputs."""

    def __init__(self, plant, picks):
        self.stages = plant
        self.picks = picks
        self.entered = {buffer: 0 for buffer in buffers(plant)}
        self.readers = reader_places(plant)
        self.ran = [0] * len(plant)
        self.queues = [initial_queues(plant, number) for number in range(len(plant))]
        self.tools = [[None] * len(stage[INPUTS]) for stage in plant]
        self.rows = []

    def receive(self, material, units):
        """So many units of the material enter its buffer."""
        for _ in range(units):
            self.enter(material)

    def enter(self, buffer):
        """The next unit of the buffer enters it."""
        self.entered[buffer] += 1
        if buffer in self.readers:
            number, place = self.readers[buffer]
            self.queues[number][place].append(("unit", buffer, self.entered[buffer]))

    def needs(self, number):
        """For each input of the stage how many units its next cycle consumes."""
        return [increment(feed[1], self.ran[number]) for feed in self.stages[number][INPUTS]]

    def can_run(self, number):
        """True if enough units wait for the next cycle of the stage."""
        pairs = zip(self.needs(number), self.queues[number])
        return all([need <= len(queue) for need, queue in pairs])

    def run(self, number):
        """The stage runs its next cycle, for which enough units wait."""
        parts = []
        for place, need in enumerate(self.needs(number)):
            parts.extend(self.used(number, place, self.take(number, place, need)))
        before = self.ran[number]
        self.ran[number] += 1
        for output in self.stages[number][OUTPUTS]:
            for _ in range(increment(output[1], before)):
                self.enter(output[0])
                self.rows.append((output[0], self.entered[output[0]], number, before + 1, tuple(parts)))

    def take(self, number, place, many):
        """The references of so many units that are taken from in front of the input."""
        queue = self.queues[number][place]
        took = []
        for _ in range(many):
            took.append(queue.pop(picked(self.picks, len(queue)) - 1))
        return took

    def used(self, number, place, took):
        """What the cycle uses at the input, where it took these: of a tool input the tool in use."""
        if not self.stages[number][INPUTS][place][3]:
            return took
        if took:
            self.tools[number][place] = took[-1]
        tool = self.tools[number][place]
        return [] if tool is None else [tool]


def initial_queues(plant, number):
    """For each input of the stage the list of the references of its initial units."""
    return [
        [reference(number, place, feed, position) for position in range(1, feed[2] + 1)]
        for place, feed in enumerate(plant[number][INPUTS])
    ]


def picked(picks, many):
    """The place, from 1, of the unit that is taken next when so many wait."""
    return picks[many - 1] if many <= len(picks) else 1


def played(plant, events, picks):
    """The floor behind the events; raises CannotRun at the first run that cannot be made."""
    floor = Floor(plant, picks)
    for at, (word, number, *units) in enumerate(events):
        if word == "receive":
            floor.receive(number, units[0])
        elif floor.can_run(number):
            floor.run(number)
        else:
            raise CannotRun(at)
    return floor


def run_out(plant, events, *, picks=()):
    """The rows (buffer, unit, stage, cycle, components) of the units that the events produce."""
    return tuple(played(plant, events, picks).rows)


def waiting(plant, events, *, picks=()):
    """For each stage and input what waits behind the events, and the tool in use."""
    floor = played(plant, events, picks)
    return tuple([
        tuple([(tuple(queue), tool) for queue, tool in zip(queues, tools)])
        for queues, tools in zip(floor.queues, floor.tools)
    ])


def conflict(picks):
    """The plant, the two tuples of plant events and the unit of the conflict, or None.

    Both receive the same and run the same, but the unit is not made of the same.
    """
    others = [many for many, pick in enumerate(picks, start=1) if pick != 1]
    if not others:
        return None
    stage = ((0, IDENTITY, 0, False),), ((1, IDENTITY, 1),), ZERO, ZERO, 1, IDENTITY
    first = ("receive", 0, others[0]), ("run", 0)
    second = ("receive", 0, 1), ("run", 0), ("receive", 0, others[0] - 1)
    return (stage,), first, second, 1, 1
