"""What the document defines, worked out plainly, step by step, without the program.

The tests compare the program with this. Nothing here is quick, and nothing here is
taken from the program.
"""

import random


def step(curve, k):
    """Increment k of a curve."""
    _, transient, period = curve
    if k < len(transient):
        return transient[k]
    return period[(k - len(transient)) % len(period)]


def values(curve, many):
    """The values of a curve at 0 to many - 1."""
    found = [curve[0]]
    for k in range(many - 1):
        found.append(found[-1] + step(curve, k))
    return found


def value(curve, x):
    """The value of a curve at x."""
    return values(curve, x + 1)[x]


def is_curve(curve):
    """True if this is a curve in form and kind."""
    return (
        type(curve) is tuple and len(curve) == 3 and type(curve[0]) is int and curve[0] >= 0
        and all(type(part) is tuple for part in curve[1:])
        and all(type(entry) is int and entry >= 0 for part in curve[1:] for entry in part)
        and len(curve[2]) > 0
    )


def is_normal_sequence(transient, period):
    """True if no shorter period and no shorter transient part tell the same sequence."""
    size = len(period)
    shorter = [part for part in range(1, size) if size % part == 0]
    if any(period[:part] * (size // part) == period for part in shorter):
        return False
    return not transient or transient[-1] != period[-1]


def is_normal(curve):
    """True if this is a curve in normal form."""
    return is_curve(curve) and is_normal_sequence(curve[1], curve[2])


def lower(curve, x):
    """The least n with f(n) >= x, of an unbounded curve."""
    n, height = 0, curve[0]
    while height < x:
        height += step(curve, n)
        n += 1
    return n


def upper(curve, x):
    """The greatest n with f(n) <= x, of an unbounded curve, or None."""
    if x < curve[0]:
        return None
    n, height = 0, curve[0]
    while height + step(curve, n) <= x:
        height += step(curve, n)
        n += 1
    return n


def branch(routing, unit):
    """The branch to which the unit goes."""
    return step((0,) + routing, unit)


def branches(routing, many):
    """The branches of the units 0 to many - 1."""
    return [branch(routing, unit) for unit in range(many)]


class Maker:
    """Makes curves, routings and plants of the passed sizes, the same ones in each run."""

    def __init__(self, seed):
        self.random = random.Random(seed)

    def number(self, low, high):
        return self.random.randint(low, high)

    def choice(self, members):
        return self.random.choice(members)

    def entries(self, least, most, high):
        """A tuple of numbers, often with many 0s or of one size."""
        many = self.number(least, most)
        top = self.choice((1, 2, high, high))
        return tuple(self.number(0, min(top, high)) for _ in range(many))

    def curve(self, *, initial=20, high=20, unbounded=False):
        """A curve of the sizes of point 20."""
        start = self.choice((0, 0, self.number(0, initial)))
        transient, period = self.entries(0, 4, high), self.entries(1, 4, high)
        if unbounded and sum(period) == 0:
            period = period[:-1] + (self.number(1, high),)
        return start, transient, period

    def flow(self, *, high=4):
        """A flow curve of the sizes of point 60."""
        return self.curve(initial=0, high=high, unbounded=True)

    def routing(self, *, high=3):
        """A routing of the sizes of point 40."""
        return self.entries(0, 4, high), self.entries(1, 4, high)


def longer(curve, rounds, turns):
    """The same curve, written longer than need be."""
    initial, transient, period = curve
    for k in range(turns):
        transient, period = transient + period[:1], period[1:] + period[:1]
    return initial, transient, period * rounds
