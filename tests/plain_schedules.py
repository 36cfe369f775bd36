"""Schedules worked out cycle by cycle and hour by hour, and plans looked at unit by unit.

Nothing here is taken from the program.
"""

from tests.plain import readers, sources, step, value, writers


def timed(maker, plant):
    """The plant with any costs, durations, parallelisms and calendars."""
    stages = []
    for feeds, outputs, *_ in plant:
        outputs = tuple((buffer, flow, maker.choice((0, 1, maker.number(0, 5)))) for buffer, flow, _ in outputs)
        cost, duration = maker.curve(initial=0), maker.curve(initial=0, high=5)
        opening = maker.choice(((0, (), (1,)), maker.curve(initial=0, high=1, unbounded=True)))
        stages.append((feeds, outputs, cost, duration, maker.number(1, 3), opening))
    return tuple(stages)


def plain_products(plant):
    read = {buffer for _, buffer in readers(plant)}
    return sorted({buffer for _, buffer in writers(plant)} - read)


def any_arrivals(maker, plant, most=24, latest=40):
    """Pairs of some materials and non-decreasing hours."""
    rows = []
    for material in sorted(sources(plant)):
        if maker.number(0, 9):
            last = maker.choice((0, 5, latest))
            rows.append((material, tuple(sorted(maker.number(0, last) for _ in range(maker.number(0, most))))))
    maker.random.shuffle(rows)
    return tuple(rows)


def work_finish(opening, start, hours):
    """Hour by hour: the finish of so many open hours of work."""
    while hours > 0:
        hours -= step(opening, start)
        start += 1
    return start


def work_start(opening, end, hours):
    """Start by start, from the end back: the latest one, or None."""
    for start in range(end, -1, -1):
        if work_finish(opening, start, hours) <= end:
            return start
    return None


class Clock:
    """The earliest schedule, cycle by cycle; in front of each input stands the list of the hours of its positions."""

    def __init__(self, plant, arrivals):
        self.plant, self.arrivals = plant, dict(arrivals)
        self.hours = {material: list(self.arrivals.get(material, ())) for material in sources(plant)}
        self.times = []
        for stage in plant:
            self.times.append([])
            self.hours.update({output[0]: [] for output in stage[1]})
            while self.can_run(stage):
                self.run(stage)

    def queue(self, feed):
        return [0] * feed[2] + self.hours[feed[0]]

    def can_run(self, stage):
        n = len(self.times[-1]) + 1
        small = n <= 30 and all(len(hours) <= 30 for hours in self.hours.values())
        return small and all(len(self.queue(feed)) >= value(feed[1], n) for feed in stage[0])

    def run(self, stage):
        feeds, outputs, _, duration, parallelism, opening = stage
        rows, n = self.times[-1], len(self.times[-1]) + 1
        waits = [0] + [self.queue(feed)[value(feed[1], n) - 1] for feed in feeds if value(feed[1], n)]
        if n > parallelism:
            waits.append(rows[n - parallelism - 1][1])
        ends = [work_finish(opening, max(waits), step(duration, n - 1))] + [row[1] for row in rows[-1:]]
        rows.append((max(waits), max(ends)))
        for buffer, production, _ in outputs:
            self.hours[buffer] += [max(ends)] * step(production, n - 1)

    def is_too_much(self):
        return max(len(rows) for rows in self.times) > 24 or max(len(hours) for hours in self.hours.values()) > 24

    def earliest(self):
        rows = tuple((product, tuple(self.hours[product])) for product in plain_products(self.plant))
        return tuple(tuple(times) for times in self.times), rows

    def chain(self, s, n):
        """The critical chain: what made each hour what it is, told by the definition."""
        links, at_finish = [], True
        while True:
            feeds, _, _, duration, parallelism, opening = self.plant[s]
            start, end = self.times[s][n - 1]
            if at_finish and work_finish(opening, start, step(duration, n - 1)) == end:
                links.append(("work", s, n))
                at_finish = False
            elif at_finish:
                links.append(("after", s, n - 1))
                n -= 1
            elif start == 0:
                return tuple(links + [("begin", s, n)])
            else:
                last = [(feed, value(feed[1], n)) for feed in feeds]
                just = [(feed[0], at - feed[2]) for feed, at in last if at and self.queue(feed)[at - 1] == start]
                if just and just[0][0] in sources(self.plant):
                    return tuple(links + [("arrival", *just[0])])
                if just:
                    links.append(("unit", *just[0]))
                    s, n = self.maker_of(*just[0])
                else:
                    links.append(("slot", s, n - parallelism))
                    n -= parallelism
                at_finish = True

    def maker_of(self, buffer, unit):
        for s, stage in enumerate(self.plant):
            for output in stage[1]:
                if output[0] == buffer:
                    return s, next(n for n in range(1, 99) if value(output[1], n) >= unit)


class Book:
    """A plan, and the rules of point 241 that each of its cycles breaks."""

    def __init__(self, plant, arrivals, plan):
        self.plant, self.arrivals, self.plan = plant, dict(arrivals), plan

    def is_there(self, buffer, unit, hour):
        if buffer in sources(self.plant):
            hours = self.arrivals.get(buffer, ())
            return unit <= len(hours) and hours[unit - 1] <= hour
        for s, stage in enumerate(self.plant):
            for output in stage[1]:
                if output[0] == buffer:
                    ends = [end for n, (_, end) in enumerate(self.plan[s], 1) if value(output[1], n - 1) < unit
                            <= value(output[1], n)]
                    return bool(ends) and ends[0] <= hour

    def broken(self, s, n):
        """All rules that the cycle breaks, those that are told first in front."""
        feeds, _, _, duration, parallelism, opening = self.plant[s]
        rows = self.plan[s]
        start, end = rows[n - 1]
        for i, (buffer, consumption, stock, _) in enumerate(feeds):
            for position in range(value(consumption, n - 1) + 1, value(consumption, n) + 1):
                if position > stock and not self.is_there(buffer, position - stock, start):
                    yield "unit", s, n, i, position
        if any(before > start or behind > end for before, behind in rows[max(0, n - 2):n - 1]):
            yield "order", s, n
        if n > parallelism and start < rows[n - parallelism - 1][1]:
            yield "slot", s, n
        if end < start or sum(step(opening, hour) for hour in range(start, end)) < step(duration, n - 1):
            yield "work", s, n

    def violations(self):
        return [rule for s, rows in enumerate(self.plan) for n in range(1, len(rows) + 1) for rule in self.broken(s, n)]


class Backwards:
    """The latest schedule, from the last stage to the first one, cycle by cycle and unit by unit."""

    def __init__(self, plant, due):
        self.plant = plant
        self.needs = {buffer: 0 for _, buffer in readers(plant) + writers(plant)}
        self.needs.update({product: len(hours) for product, hours in due})
        self.by = {(product, unit): hour for product, hours in due for unit, hour in enumerate(hours, 1)}
        self.times = [None] * len(plant)
        for s in reversed(range(len(plant))):
            self.work_out(s)

    def cycles(self, s):
        n = 0
        while any(value(output[1], n) < self.needs[output[0]] for output in self.plant[s][1]):
            n += 1
        return n

    def work_out(self, s):
        feeds, outputs, _, duration, parallelism, opening = self.plant[s]
        many, rows = self.cycles(s), {}
        for n in range(many, 0, -1):
            limits = [
                self.by[buffer, unit] for buffer, flow, _ in outputs
                for unit in range(value(flow, n - 1) + 1, value(flow, n) + 1) if unit <= self.needs[buffer]
            ]
            behind = [rows[n + 1]] if n < many else []
            slot = [rows[n + parallelism]] if n + parallelism <= many else []
            rows[n] = None
            if None in limits + behind + slot:
                continue
            end = min(limits + [row[1] for row in behind] + [row[0] for row in slot])
            start = work_start(opening, end, step(duration, n - 1))
            if start is not None:
                rows[n] = min([start] + [row[0] for row in behind]), end
        self.times[s] = tuple(rows[n] for n in range(1, many + 1))
        for buffer, flow, stock, _ in feeds:
            self.needs[buffer] = max(0, value(flow, many) - stock)
            for n in range(1, many + 1):
                for position in range(value(flow, n - 1) + 1, value(flow, n) + 1):
                    self.by[buffer, position - stock] = None if rows[n] is None else rows[n][0]

    def is_too_much(self):
        return max(len(rows) for rows in self.times) > 24 or max(self.needs.values()) > 24

    def latest(self):
        rows = tuple(
            (material, tuple(self.by[material, unit] for unit in range(1, self.needs[material] + 1)))
            for material in sorted(sources(self.plant))
        )
        return all(row is not None for times in self.times for row in times), tuple(self.times), rows
