"""Chains: which way through the plant is the slowest, which one limits, which one requires."""

from math import gcd

from plantrace.completion import completed, totals_behind, totals_read
from plantrace.curves import rate
from plantrace.plants import INPUTS, OUTPUTS, reader_places, writer_places
from plantrace.requirements import cycles_for, demanded, required
from plantrace.stages import supported, supports


def slowest_path(plant, buffer, material):
    """The rate and the steps of the slowest path from the material to the buffer, or None."""
    found = {buffer: ((1, 1), ())}
    for number in reversed(range(len(plant))):
        for place, feed in enumerate(plant[number][INPUTS]):
            path = slowest_through(plant[number], number, place, found)
            if path is not None:
                found[feed[0]] = path
    return found.get(material)


def slowest_through(stage, number, place, found):
    """The slowest path that begins at this input of the stage, or None.

    Found are those from the buffers behind it. What is the slowest path from there
    on is so with each step before it, as the rate of the step is a factor.
    """
    best = None
    consumption = stage[INPUTS][place][1]
    for at, (buffer, production, _) in enumerate(stage[OUTPUTS]):
        if buffer in found:
            behind, steps = found[buffer]
            pace = multiplied(step_rate(consumption, production), behind)
            if best is None or is_less(pace, best[0]):
                best = pace, ((number, place, at),) + steps
    return best


def step_rate(consumption, production):
    """The units produced for each unit consumed, in the long run."""
    consumed, cycles = rate(consumption)
    return multiplied((cycles, consumed), rate(production))


def multiplied(first, second):
    """The product of two fractions, without a common divisor."""
    above, below = first[0] * second[0], first[1] * second[1]
    common = gcd(above, below)
    return above // common, below // common


def is_less(first, second):
    """True if the first fraction is less than the second one."""
    return first[0] * second[1] < second[0] * first[1]


def limiting_chain(plant, receipts, buffer):
    """The links (stage, input) that go back from the buffer to the material that limits it."""
    cycles, totals, _ = completed(plant, receipts)
    there = dict(totals)
    writers = writer_places(plant)
    links = []
    while buffer in writers:
        number, _ = writers[buffer]
        feeds = plant[number][INPUTS]
        # No input supports fewer cycles, so one that supports just these limits them.
        place = [supports(feed, there[feed[0]]) for feed in feeds].index(cycles[number])
        links.append((number, place))
        buffer = feeds[place][0]
    return tuple(links)


def requirement_path(plant, demand, material):
    """The steps from the material to the demand that is the reason for its requirement, or None."""
    units, cycles = required(plant, demand)
    asked = demanded(plant, demand)
    readers = reader_places(plant)
    if units[material] == 0:
        return None
    steps = []
    buffer = material
    while units[buffer] > asked[buffer]:
        number, place = readers[buffer]
        at = cycles_for(plant[number], units).index(cycles[number])
        steps.append((number, place, at))
        buffer = plant[number][OUTPUTS][at][0]
    return tuple(steps)


def meets(plant, receipts, cycles, demand):
    """True if so many cycles can be made of the receipts and give what is demanded."""
    there = totals_behind(plant, receipts, cycles)
    for stage, many in zip(plant, cycles):
        if supported(stage, totals_read(stage, there)) < many:
            return False
    return all([there[buffer] >= quantity for buffer, quantity in demand])
