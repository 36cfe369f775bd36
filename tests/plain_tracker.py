"""A tracker as the list of its accepted events; each answer is worked out from that list anew.

Nothing here is taken from the program.
"""

from tests.plain import Floor, Story, is_normal_sequence, sources, step
from tests.plain_faults import EXONERATING, History, Known
from tests.plain_schedules import Clock, plain_products


def changed_curve(curve, cycle, amount):
    """The curve with one increment greater, in normal form: the shortest one with these increments."""
    reach, size = max(len(curve[1]), cycle), len(curve[2])
    steps = [step(curve, k) + (amount if k == cycle - 1 else 0) for k in range(reach + 3 * size)]
    for size in range(1, size + 1):
        for many in range(reach + 1):
            transient, period = tuple(steps[:many]), tuple(steps[many:many + size])
            same = all(step((0, transient, period), k) == steps[k] for k in range(len(steps)))
            if same and is_normal_sequence(transient, period):
                return curve[0], transient, period


def changed_plant(plant, cycles, disruption):
    """The plant changed by the disruption, or None."""
    word, s, *places, cycle, amount = disruption
    if s >= len(plant) or cycle <= cycles[s]:
        return None
    feeds, outputs, cost, duration, *others = plant[s]
    if word in ("yield", "extra"):
        rows = list(outputs if word == "yield" else feeds)
        if places[0] >= len(rows):
            return None
        buffer, flow, *rest = rows[places[0]]
        there = step(flow, cycle - 1)
        if word == "yield" and there < amount or word == "extra" and rest[1] and (there, amount) != (0, 1):
            return None
        rows[places[0]] = buffer, changed_curve(flow, cycle, -amount if word == "yield" else amount), *rest
        feeds, outputs = (feeds, tuple(rows)) if word == "yield" else (tuple(rows), outputs)
    elif word == "slow":
        duration = changed_curve(duration, cycle, amount)
    else:
        cost = changed_curve(cost, cycle, amount)
    return plant[:s] + ((feeds, outputs, cost, duration, *others),) + plant[s + 1:]


class Ledger:
    """The accepted events: lots with their hours, cycles that ran, plants, orders, sequences, observations."""

    def __init__(self, plant):
        self.original, self.log = plant, []
        self.accepted = []

    def rows(self, word):
        return [row[1:] for row in self.accepted if row[0] == word]

    def plant(self):
        plant = self.original
        for (changed,) in self.rows("plant"):
            plant = changed
        return plant

    def lots(self):
        return tuple(row[:3] for row in self.rows("lot"))

    def story(self):
        """All lots received and all runs made, in the current plant."""
        story = Story(self.plant())
        for material, quantity, _ in self.lots():
            story.play(("receive", material, quantity))
        for (s,) in self.rows("ran"):
            assert story.play(("run", s))
        return story

    def state(self):
        return self.plant(), self.lots(), tuple(self.story().cycles)

    def orders(self):
        return tuple(self.rows("order"))

    def sequence(self):
        found = []
        for row in self.accepted:
            if row[0] == "order":
                found.append(len(found))
            elif row[0] == "sequence":
                found = list(row[1])
        return tuple(found)

    def observations(self):
        return tuple(row[0] for row in self.rows("seen"))

    def first_units(self):
        """For each order of the sequence its first unit."""
        given, found = {}, {}
        for order in self.sequence():
            product, quantity, _ = self.orders()[order]
            found[order] = given.get(product, 0) + 1
            given[product] = given.get(product, 0) + quantity
        return found

    def apply(self, event):
        """What is told of the event; what it does is added to what was accepted."""
        self.log.append(event)
        return getattr(self, "apply_" + event[0])(*event[1:])

    def apply_receive(self, material, quantity, cost, hour):
        rows = self.rows("lot")
        if material not in sources(self.plant()) or len(rows) == 4:
            return None
        if any(row[0] == material and row[3] > hour for row in rows):
            return None
        floor = Floor(self.plant())
        floor.complete([row[:2] for row in rows] + [(material, quantity)])
        if max(floor.cycles) > 24 or max(floor.totals.values()) > 24:
            return None
        self.accepted.append(("lot", material, quantity, cost, hour))
        return len(rows)

    def apply_run(self, s, many):
        story, ran = self.story(), 0
        while s < len(story.plant) and ran < many and story.play(("run", s)):
            self.accepted.append(("ran", s))
            ran += 1
        return ran

    def apply_run_all(self):
        return tuple(self.apply_run(s, 99) for s in range(len(self.original)))

    def apply_disrupt(self, disruption):
        changed = changed_plant(self.plant(), self.story().cycles, disruption)
        if changed is None or len(self.rows("plant")) == 4:
            return False
        self.accepted.append(("plant", changed))
        return True

    def apply_order(self, product, quantity, due):
        if product not in plain_products(self.original) or len(self.orders()) == 6:
            return None
        self.accepted.append(("order", product, quantity, due))
        return len(self.orders()) - 1

    def apply_expedite(self, order):
        orders, sequence, totals = self.orders(), self.sequence(), self.story().totals
        if order >= len(orders):
            return None
        waiting = [
            other for other in sequence
            if orders[other][0] == orders[order][0] and self.first_units()[other] > totals[orders[order][0]]
        ]
        if order not in waiting:
            return None
        rest = [other for other in sequence if other != order]
        if waiting[0] != order:
            rest.insert(rest.index(waiting[0]), order)
            self.accepted.append(("sequence", tuple(rest)))
        return self.sequence().index(order)

    def apply_observe(self, observation):
        history, seen = History(self.state()), self.observations() + (observation,)
        if not history.is_valid(observation) or len(seen) > 4:
            return False
        if not history.fits(history.worst_cases(seen), seen):
            return False
        self.accepted.append(("seen", observation))
        return True

    def arrivals(self):
        found = {}
        for material, quantity, _, hour in self.rows("lot"):
            found.setdefault(material, []).extend([hour] * quantity)
        return tuple(found.items())

    def clock(self):
        return Clock(self.plant(), self.arrivals())

    def history(self):
        return Known(self.state())


def any_disruption(maker):
    word = maker.choice(("yield", "extra", "slow", "cost"))
    places = (maker.choice((0, 0, 1, maker.number(0, 4))),) if word in ("yield", "extra") else ()
    return (word, maker.choice((0, 1, maker.number(0, 4)))) + places + (maker.number(1, 12),
        maker.choice((1, 1, maker.number(1, 4))))


def any_seen(maker, ledger):
    """An observation, most often a valid one, often an exonerating one."""
    if maker.number(0, 4) == 0:
        word = maker.choice(("intact", "broken"))
        return word, maker.number(0, 2), maker.number(0, 2), maker.number(1, 9)
    told = History(ledger.state()).observations() or [("good", 9)]
    if maker.number(0, 1):
        told = [observation for observation in told if observation[0] in EXONERATING] or told
    return maker.choice(told)


def any_event(maker, ledger, hour):
    """An event that may be accepted, or not."""
    known = sorted(sources(ledger.original))
    word = maker.choice(("receive",) * 2 + ("run",) * 4 + ("run_all", "disrupt", "order", "order", "expedite",
        "observe", "observe"))
    if word == "receive":
        material = maker.choice(known + known + [maker.number(0, 19)])
        return word, material, maker.number(1, maker.choice((4, 12))), maker.number(0, 100), max(0,
            hour + maker.number(-3, 3))
    if word == "run":
        return word, maker.choice((0, 1, maker.number(0, 9))), maker.choice((1, 2, maker.number(1, 24)))
    if word == "disrupt":
        return word, any_disruption(maker)
    if word == "order":
        product = maker.choice(plain_products(ledger.original) * 3 + [maker.number(0, 19)])
        return word, product, maker.number(1, maker.choice((2, 12))), maker.number(0, 100)
    if word == "expedite":
        return word, maker.choice((0, 1, 2, maker.number(0, 9)))
    return (word, any_seen(maker, ledger)) if word == "observe" else (word,)
