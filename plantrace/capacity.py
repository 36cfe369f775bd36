"""Capacity: how many cycles and units each material alone allows, as curves."""

from plantrace.curves import IDENTITY, PERIOD, TRANSIENT, composed, crossing, minimum, normal, raised
from plantrace.errors import TooLarge
from plantrace.inverses import upper_inverse
from plantrace.plants import INPUTS, OUTPUTS, dependence, materials

LARGEST = 60


def capacities(plant):
    """The triples (buffer, material, curve) of all capacity curves."""
    units, _ = capacity_tables(plant)
    return triples(units)


def cycle_capacities(plant):
    """The triples (stage, material, curve) of all cycle capacities."""
    _, cycles = capacity_tables(plant)
    return triples(cycles)


def triples(table):
    """The keys, pairs of numbers, and the curves of the table as triples, ascending."""
    return tuple([(number, material, curve) for (number, material), curve in sorted(table.items())])


def capacity_tables(plant):
    """Two dicts: curves by buffer and material, and cycle capacities by stage and material."""
    known = dependence(plant)
    units = {(material, material): IDENTITY for material in materials(plant)}
    cycles = {}
    for number, stage in enumerate(plant):
        supports = [fitting(upper_inverse(feed[1])) for feed in stage[INPUTS]]
        flows = {output[0]: fitting(output[1]) for output in stage[OUTPUTS]}
        for material in known[stage[OUTPUTS][0][0]]:
            joint = cycle_capacity(stage[INPUTS], supports, material, units)
            cycles[(number, material)] = joint
            for buffer, production in flows.items():
                units[(buffer, material)] = fitting(composed((joint, production)))
    return units, cycles


def cycle_capacity(feeds, supports, material, units):
    """The joint capacity for the material of all the inputs that depend on it."""
    joint = None
    for (buffer, _, stock, _), support in zip(feeds, supports):
        if (buffer, material) in units:
            alone = cycles_supported(units[(buffer, material)], stock, support)
            joint = alone if joint is None else joint_minimum(joint, alone)
    return joint


def cycles_supported(units, stock, support):
    """How many cycles an input supports when its buffer has the units that a curve tells.

    The support is the upper inverse curve of the input's consumption.
    """
    return fitting(composed((raised(units, stock), support)))


def joint_minimum(first, second):
    """The minimum of two curves neither of which is too large."""
    last = crossing(first, second)
    # Then the minimum is too large; it could be much longer than can be worked out.
    if last is not None and last >= LARGEST:
        raise TooLarge("the minimum of two curves is too large")
    return fitting(minimum(first, second))


def fitting(curve):
    """The normal form of the curve, if it is not too large."""
    short = normal(curve)
    if len(short[TRANSIENT]) + len(short[PERIOD]) > LARGEST:
        raise TooLarge(f"a curve has more than {LARGEST} increments")
    return short
