"""What the document defines, worked out plainly, step by step, without the program.

The tests compare the program with this. Nothing here is quick, and nothing here is
taken from the program.
"""

import random


def step(curve, k):
    """Increment k of a curve."""
    _, transient, period = curve
    if k < len(transient):
        return transient[k]
    return period[(k - len(transient)) % len(period)]


def values(curve, many):
    """The values of a curve at 0 to many - 1."""
    found = [curve[0]]
    for k in range(many - 1):
        found.append(found[-1] + step(curve, k))
    return found


def value(curve, x):
    """The value of a curve at x."""
    return values(curve, x + 1)[x]


def is_curve(curve):
    """True if this is a curve in form and kind."""
    return (
        type(curve) is tuple and len(curve) == 3 and type(curve[0]) is int and curve[0] >= 0
        and all(type(part) is tuple for part in curve[1:])
        and all(type(entry) is int and entry >= 0 for part in curve[1:] for entry in part)
        and len(curve[2]) > 0
    )


def is_normal_sequence(transient, period):
    """True if no shorter period and no shorter transient part tell the same sequence."""
    size = len(period)
    shorter = [part for part in range(1, size) if size % part == 0]
    if any(period[:part] * (size // part) == period for part in shorter):
        return False
    return not transient or transient[-1] != period[-1]


def is_normal(curve):
    """True if this is a curve in normal form."""
    return is_curve(curve) and is_normal_sequence(curve[1], curve[2])


def lower(curve, x):
    """The least n with f(n) >= x, of an unbounded curve."""
    n, height = 0, curve[0]
    while height < x:
        height += step(curve, n)
        n += 1
    return n


def upper(curve, x):
    """The greatest n with f(n) <= x, of an unbounded curve, or None."""
    if x < curve[0]:
        return None
    n, height = 0, curve[0]
    while height + step(curve, n) <= x:
        height += step(curve, n)
        n += 1
    return n


def branch(routing, unit):
    """The branch to which the unit goes."""
    return step((0,) + routing, unit)


def branches(routing, many):
    """The branches of the units 0 to many - 1."""
    return [branch(routing, unit) for unit in range(many)]


class Maker:
    """Makes curves, routings and plants of the passed sizes, the same ones in each run."""

    def __init__(self, seed):
        self.random = random.Random(seed)

    def number(self, low, high):
        return self.random.randint(low, high)

    def choice(self, members):
        return self.random.choice(members)

    def entries(self, least, most, high):
        """A tuple of numbers, often with many 0s or of one size."""
        many = self.number(least, most)
        top = self.choice((1, 2, high, high))
        return tuple(self.number(0, min(top, high)) for _ in range(many))

    def curve(self, *, initial=20, high=20, unbounded=False):
        """A curve of the sizes of point 20."""
        start = self.choice((0, 0, self.number(0, initial)))
        transient, period = self.entries(0, 4, high), self.entries(1, 4, high)
        if unbounded and sum(period) == 0:
            period = period[:-1] + (self.number(1, high),)
        return start, transient, period

    def flow(self, *, high=4):
        """A flow curve of the sizes of point 60."""
        return self.curve(initial=0, high=high, unbounded=True)

    def routing(self, *, high=3):
        """A routing of the sizes of point 40."""
        return self.entries(0, 4, high), self.entries(1, 4, high)

    def feed(self, buffer):
        """An input that reads the buffer."""
        stock, tool = self.number(0, 4), self.choice((True, False, False))
        return buffer, self.flow(high=1 if tool else 4), stock, tool

    def source(self, waiting, numbers):
        """A buffer that an earlier stage writes and none reads, or a new one."""
        return waiting.pop() if waiting and self.number(0, 1) else numbers.pop()

    def plant(self):
        """A right plant of the sizes of point 61, with buffers numbered in any order."""
        numbers = self.random.sample(range(20), 20)
        waiting, stages = [], []
        for _ in range(self.number(1, 4)):
            most = 3 if len(numbers) > 6 else 1
            read = [self.source(waiting, numbers) for _ in range(self.number(1, most))]
            feeds = tuple(self.feed(buffer) for buffer in read)
            written = [numbers.pop() for _ in range(self.number(1, most))]
            outputs = tuple((buffer, self.flow(), self.number(0, 5)) for buffer in written)
            waiting.extend(written)
            self.random.shuffle(waiting)
            stages.append((feeds, outputs, (0, (), (1,)), (0, (), (2,)), self.number(1, 3), (0, (), (1, 0))))
        return tuple(stages)

    def receipts(self, plant, high):
        """Receipts of some materials of the plant, in any order."""
        known = sorted(sources(plant))
        self.random.shuffle(known)
        return tuple((material, self.number(0, high)) for material in known if self.number(0, 7))


def longer(curve, rounds, turns):
    """The same curve, written longer than need be."""
    initial, transient, period = curve
    for k in range(turns):
        transient, period = transient + period[:1], period[1:] + period[:1]
    return initial, transient, period * rounds


def readers(plant):
    """The pairs (stage, buffer) of all inputs."""
    return [(number, feed[0]) for number, stage in enumerate(plant) for feed in stage[0]]


def writers(plant):
    """The pairs (stage, buffer) of all outputs."""
    return [(number, output[0]) for number, stage in enumerate(plant) for output in stage[1]]


def sources(plant):
    """The materials of a plant."""
    return {buffer for _, buffer in readers(plant)} - {buffer for _, buffer in writers(plant)}


class Floor:
    """A plant that is run unit by unit: in front of each input wait the numbers of positions."""

    def __init__(self, plant):
        self.plant = plant
        self.totals = {buffer: 0 for _, buffer in readers(plant) + writers(plant)}
        self.cycles = [0] * len(plant)
        self.queues = [[list(range(1, feed[2] + 1)) for feed in stage[0]] for stage in plant]

    def enter(self, buffer):
        """One unit enters the buffer."""
        self.totals[buffer] += 1
        for stage, queues in zip(self.plant, self.queues):
            for feed, queue in zip(stage[0], queues):
                if feed[0] == buffer:
                    queue.append(feed[2] + self.totals[buffer])

    def can_run(self, number):
        """True if enough units wait for the next cycle of the stage."""
        feeds, n = self.plant[number][0], self.cycles[number]
        return all(len(queue) >= step(feed[1], n) for feed, queue in zip(feeds, self.queues[number]))

    def run(self, number):
        """The next cycle of the stage."""
        feeds, outputs, n = self.plant[number][0], self.plant[number][1], self.cycles[number]
        for feed, queue in zip(feeds, self.queues[number]):
            del queue[:step(feed[1], n)]
        for buffer, production, _ in outputs:
            for _ in range(step(production, n)):
                self.enter(buffer)
        self.cycles[number] += 1

    def is_too_much(self):
        return max(self.cycles) > 1000 or max(self.totals.values()) > 1000

    def complete(self, receipts, maker=None):
        """Receives all units and runs all that can be run, in any order with a maker."""
        units = [material for material, many in receipts for _ in range(many)]
        if maker:
            maker.random.shuffle(units)
        while not self.is_too_much():
            ready = [number for number in range(len(self.plant)) if self.can_run(number)]
            if units and (not ready or maker and maker.number(0, 1)):
                self.enter(units.pop())
            elif ready:
                self.run(maker.choice(ready) if maker else ready[0])
            else:
                break

    def outcome(self):
        """What the document calls the triple of the completion."""
        hands = tuple(tuple(len(queue) for queue in queues) for queues in self.queues)
        return tuple(self.cycles), tuple(sorted(self.totals.items())), hands


def alone(plant, material, many):
    """What so many units of one material alone allow, cycle by cycle: cycles by stage, totals by buffer."""
    totals, cycles = {material: many}, {}
    for number, (feeds, outputs, *_) in enumerate(plant):
        mine = [feed for feed in feeds if feed[0] in totals]
        if not mine:
            continue
        ran, used = 0, [0] * len(mine)
        while True:
            used = [units + step(feed[1], ran) for feed, units in zip(mine, used)]
            if any(units > totals[feed[0]] + feed[2] for feed, units in zip(mine, used)):
                break
            ran += 1
        cycles[number] = ran
        totals.update({output[0]: value(output[1], ran) for output in outputs})
    return cycles, totals


class Story:
    """Plant events that are run out reference by reference, by a picking rule."""

    def __init__(self, plant, picks=()):
        self.plant, self.picks = plant, picks
        self.totals = {buffer: 0 for _, buffer in readers(plant) + writers(plant)}
        self.cycles = [0] * len(plant)
        self.queues = {
            (s, i): [("initial", s, i, position + 1) for position in range(feed[2])]
            for s, stage in enumerate(plant) for i, feed in enumerate(stage[0])
        }
        self.tools = dict.fromkeys(self.queues)
        self.rows = []

    def enter(self, buffer):
        self.totals[buffer] += 1
        for (s, i), queue in self.queues.items():
            if self.plant[s][0][i][0] == buffer:
                queue.append(("unit", buffer, self.totals[buffer]))

    def next(self, queue):
        """Takes the unit out of the queue that is to be taken next."""
        place = 1
        for elements, element in enumerate(self.picks, 1):
            if elements == len(queue):
                place = element
        return queue.pop(place - 1)

    def can_run(self, s):
        feeds, n = self.plant[s][0], self.cycles[s]
        return all(len(self.queues[s, i]) >= step(feed[1], n) for i, feed in enumerate(feeds))

    def run(self, s):
        feeds, outputs, *_ = self.plant[s]
        n, held = self.cycles[s], []
        for i, feed in enumerate(feeds):
            took = [self.next(self.queues[s, i]) for _ in range(step(feed[1], n))]
            if feed[3]:
                self.tools[s, i] = took[-1] if took else self.tools[s, i]
                held += [self.tools[s, i]] if self.tools[s, i] else []
            else:
                held += took
        self.cycles[s] += 1
        for buffer, production, _ in outputs:
            for _ in range(step(production, n)):
                self.enter(buffer)
                self.rows.append((buffer, self.totals[buffer], s, n + 1, tuple(held)))

    def play(self, event):
        """True if the event can be made."""
        if event[0] == "receive":
            for _ in range(event[2]):
                self.enter(event[1])
        elif self.can_run(event[1]):
            self.run(event[1])
        else:
            return False
        return True

    def contents(self):
        """For each produced unit, as a reference, the set of the references that it contains."""
        found = {}
        for buffer, unit, _, _, held in self.rows:
            inside = {("unit", buffer, unit)}
            for part in held:
                inside |= found.get(part, {part})
            found["unit", buffer, unit] = inside
        return found


def held_by(plant, s, n):
    """The references that cycle n of stage s holds, position by position."""
    for i, (buffer, consumption, stock, tool) in enumerate(plant[s][0]):
        before, behind = value(consumption, n - 1), value(consumption, n)
        for position in range(behind if tool else before + 1, behind + 1):
            if position > 0:
                yield ("initial", s, i, position) if position <= stock else ("unit", buffer, position - stock)


def contained(plant, reference, found, cycles):
    """Adds to what is found the reference and all that it contains, component by component."""
    if reference in found:
        return
    found.add(reference)
    made = {output[0]: (s, output[1]) for s, stage in enumerate(plant) for output in stage[1]}
    if reference[0] == "unit" and reference[1] in made:
        s, production = made[reference[1]]
        n = lower(production, reference[2])
        cycles.add((s, n))
        for part in held_by(plant, s, n):
            contained(plant, part, found, cycles)


def ranges(numbers):
    """The ranges of some numbers: a new one begins where the number below is missing."""
    numbers = set(numbers)
    firsts = sorted(number for number in numbers if number - 1 not in numbers)
    lasts = sorted(number for number in numbers if number + 1 not in numbers)
    return tuple(zip(firsts, lasts))


class Yard:
    """Makes states, with the plant events that led to them, and plant events of any kind."""

    def __init__(self, maker):
        self.maker = maker

    def lot(self, plant):
        return self.maker.choice(sorted(sources(plant))), self.maker.number(1, 12), self.maker.number(0, 100)

    def small_run(self, story, s):
        """True if the stage can run within 24 cycles and 24 units."""
        outputs, n = story.plant[s][1], story.cycles[s]
        fits = all(story.totals[output[0]] + step(output[1], n) <= 24 for output in outputs)
        return story.can_run(s) and n < 24 and fits

    def runs(self, story, most):
        """Runs of runnable stages in any order, at most so many, which are played, too."""
        told = []
        for _ in range(most):
            ready = [s for s in range(len(story.plant)) if self.small_run(story, s)]
            if not ready:
                break
            told.append(("run", self.maker.choice(ready)))
            story.play(told[-1])
        return told

    def state(self, plant):
        """A state and its story, which is run out first in, first out."""
        story, lots = Story(plant), []
        for _ in range(self.maker.number(0, 4)):
            lot = self.lot(plant)
            if story.totals[lot[0]] + lot[1] <= 24:
                lots.append(lot)
                story.play(("receive", *lot[:2]))
            self.runs(story, self.maker.choice((0, 1, 5, 99)))
        return (plant, tuple(lots), tuple(story.cycles)), story

    def events(self, plant, story):
        """At most 24 plant events that the story can make, by its own picking rule."""
        told = []
        while len(told) < 20:
            told.append(("receive", self.maker.choice(sorted(sources(plant))), self.maker.number(0, 12)))
            story.play(told[-1])
            for event in self.runs(story, self.maker.number(0, 4)):
                told.append(event)
        return tuple(told)
