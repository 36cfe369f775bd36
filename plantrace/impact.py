"""Impact: which units at the end of its path contain a unit of a buffer, in a convergent plant."""

from plantrace.capacity import fitting
from plantrace.curves import IDENTITY, PERIOD, TRANSIENT, advanced, composed, gaps, raised, reach, value
from plantrace.errors import NotConvergent
from plantrace.inverses import lower_at, lower_inverse, upper_at, upper_inverse
from plantrace.plants import INPUTS, OUTPUTS, reader_places
from plantrace.stages import use


def check_convergent(plant):
    """Raises NotConvergent with the least stage at which the plant fails, if there is one."""
    for number, stage in enumerate(plant):
        if not is_convergent(stage):
            raise NotConvergent(number)


def is_convergent(stage):
    """True if the stage has one output, and all its cycles take and produce something."""
    outputs = stage[OUTPUTS]
    flows = [production for _, production, _ in outputs]
    flows += [consumption for _, consumption, _, tool in stage[INPUTS] if not tool]
    return len(outputs) == 1 and all([min(flow[TRANSIENT] + flow[PERIOD]) >= 1 for flow in flows])


def path(plant, buffer):
    """The buffers from this one to the end that no stage reads."""
    check_convergent(plant)
    return (buffer,) + tuple([production[0] for _, production in steps_from(plant, buffer)])


def steps_from(plant, buffer):
    """The pairs of the input that reads a buffer and the output of its stage, along the path."""
    readers = reader_places(plant)
    steps = []
    while buffer in readers:
        number, place = readers[buffer]
        output = plant[number][OUTPUTS][0]
        steps.append((plant[number][INPUTS][place], output))
        buffer = output[0]
    return steps


def impact_curves(plant, buffer):
    """The completion curve and the influence curve of the buffer."""
    check_convergent(plant)
    completion = influence = IDENTITY
    for (_, consumption, stock, tool), (_, production, _) in steps_from(plant, buffer):
        upper = upper_inverse(consumption)
        last = upper if tool else lower_inverse(consumption)
        completion = fitting(composed((raised(completion, stock), upper, production)))
        influence = fitting(composed((raised(influence, stock), last, production)))
    return completion, influence


def greatest_impact(plant, buffer):
    """The greatest number of units at the end with one and the same unit, and the least such unit."""
    completion, influence = impact_curves(plant, buffer)
    most, at = greatest_gap(advanced(influence, 1), completion)
    return most, at + 1


def greatest_gap(first, second):
    """The greatest excess of the first curve over one with the same rate, and the least such point."""
    rows = gaps(first, second, sum(reach((first, second))))
    return max(rows), rows.index(max(rows))


def spread(plant, buffer, first, last):
    """The first and the last unit at the end that contain one of the units first to last."""
    check_convergent(plant)
    steps = steps_from(plant, buffer)
    return completed_with(steps, first - 1) + 1, influenced_by(steps, last)


def completed_with(steps, units):
    """The value of the completion curve at so many units."""
    for (_, consumption, stock, _), (_, production, _) in steps:
        units = value(production, upper_at(consumption, units + stock))
    return units


def influenced_by(steps, units):
    """The value of the influence curve at so many units."""
    for feed, (_, production, _) in steps:
        _, last = use(feed, units + feed[2])
        units = value(production, last)
    return units


def origin(plant, buffer, unit):
    """The first and the last unit of the buffer that the unit at the end contains, or None."""
    check_convergent(plant)
    steps = steps_from(plant, buffer)
    first, last = max(1, influencing(steps, unit)), completing(steps, unit)
    return None if last < first else (first, last)


def completing(steps, unit):
    """The lower inverse of the completion curve at the unit."""
    for (_, consumption, stock, _), (_, production, _) in reversed(steps):
        unit = max(0, value(consumption, lower_at(production, unit)) - stock)
    return unit


def influencing(steps, unit):
    """The lower inverse of the influence curve at the unit."""
    for (_, consumption, stock, tool), (_, production, _) in reversed(steps):
        cycle = lower_at(production, unit)
        # The lower inverse reaches a cycle with the first position behind the cycle before.
        position = value(consumption, cycle) if tool else value(consumption, max(0, cycle - 1)) + min(1, cycle)
        unit = max(0, position - stock)
    return unit
