"""Costs played cycle by cycle: the units that wait in front of the inputs carry what they cost.

Nothing here is taken from the program.
"""

from tests.plain import readers, step, writers


def share_out(cost, weights):
    """Member by member: what the first ones get together, rounded down, less what those before get."""
    found, before = [], 0
    for k in range(len(weights)):
        together = 0 if sum(weights) == 0 else (cost * sum(weights[:k + 1])) // sum(weights)
        found.append(together - before)
        before = together
    return found


class Books:
    """A state whose lots are received and whose cycles are run one by one, with the cost of every unit."""

    def __init__(self, state):
        self.plant, self.lots, self.cycles = state
        self.units = {buffer: [] for _, buffer in readers(self.plant) + writers(self.plant)}
        self.waiting = {
            (s, i): [0] * feed[2] for s, stage in enumerate(self.plant) for i, feed in enumerate(stage[0])
        }
        self.carried = [0] * len(self.plant)
        self.spent = 0
        for material, quantity, cost in self.lots:
            self.spent += cost
            for share in share_out(cost, [1] * quantity):
                self.enter(material, share)
        for s, many in enumerate(self.cycles):
            for n in range(many):
                self.run(s, n)

    def enter(self, buffer, cost):
        self.units[buffer].append(cost)
        for (s, i), queue in self.waiting.items():
            if self.plant[s][0][i][0] == buffer:
                queue.append(cost)

    def run(self, s, n):
        feeds, outputs, cost, *_ = self.plant[s]
        self.spent += step(cost, n)
        self.carried[s] += step(cost, n)
        for i, feed in enumerate(feeds):
            for _ in range(step(feed[1], n)):
                self.carried[s] += self.waiting[s, i].pop(0)
        made = [(buffer, weight) for buffer, flow, weight in outputs for _ in range(step(flow, n))]
        for (buffer, _), share in zip(made, share_out(self.carried[s], [weight for _, weight in made])):
            self.enter(buffer, share)
        if any(weight for _, weight in made):
            self.carried[s] = 0

    def report(self):
        left = {buffer: sum(costs) for buffer, costs in self.units.items()}
        for (s, i), queue in self.waiting.items():
            buffer, _, stock, _ = self.plant[s][0][i]
            taken = stock + len(self.units[buffer]) - len(queue)
            left[buffer] = sum(self.units[buffer][max(0, taken - stock):])
        return self.spent, tuple(sorted(left.items())), tuple(self.carried)
