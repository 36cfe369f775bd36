"""Points 83 to 85: requirements, shortages, what materials alone allow, bottlenecks; 6 to 8 where they touch these."""

import unittest

from plantrace.disruptions import worst_receipts
from plantrace.errors import TooMuch
from plantrace.plants import buffers, depends, materials
from plantrace.requirements import alone, bottlenecks, requirements, shortages
from tests import plain
from tests.plain import Floor, Maker, lower, value
from tests.samples import EACH, PARTS, REST, STAGE, line


def demand_of(maker, plant, high):
    """A demand of at most 4 pairs, often on the same buffer."""
    known = list(buffers(plant))
    return tuple((maker.choice(known[-3:] + known), maker.number(0, high)) for _ in range(maker.number(0, 4)))


def plain_required(plant, demand):
    """Requirement by requirement, the cycles of each stage counted up from 0."""
    units = {buffer: max([many for name, many in demand if name == buffer], default=0) for buffer in buffers(plant)}
    cycles = []
    for feeds, outputs, *_ in plant[::-1]:
        many = max(lower(output[1], units[output[0]]) for output in outputs)
        cycles.insert(0, many)
        for feed in feeds:
            units[feed[0]] = max(units[feed[0]], value(feed[1], many) - feed[2])
    return units, tuple(cycles)


class RequirementsTest(unittest.TestCase):
    def test_example_of_the_document(self):
        self.assertEqual(requirements((STAGE,), ((2, 4),)), (((0, 4), (1, 5)), (4,)))

    def test_least_cycles(self):
        maker = Maker(83)
        for _ in range(150):
            plant = maker.plant()
            demand = demand_of(maker, plant, 30)
            units, cycles = plain_required(plant, demand)
            if max(cycles) > 1000 or max(units.values()) > 1000:
                with self.assertRaises(TooMuch):
                    requirements(plant, demand)
            else:
                wanted = tuple((material, units[material]) for material in materials(plant))
                self.assertEqual(requirements(plant, demand), (wanted, cycles), (plant, demand))

    def test_required_units_are_enough_and_none_is_too_many(self):
        maker, tried = Maker(830), 0
        while tried < 60:
            plant = maker.plant()
            demand = demand_of(maker, plant, 9)
            units = requirements(plant, demand)[0]
            if max(many for _, many in units) > 60:
                continue
            tried += 1
            for less in (None,) + tuple(material for material, many in units if many > 0):
                floor = Floor(plant)
                floor.complete(tuple((material, many - (material == less)) for material, many in units))
                enough = all(floor.totals[buffer] >= many for buffer, many in demand)
                self.assertIs(enough, less is None, (plant, demand, less))

    def test_a_buffer_that_occurs_several_times(self):
        wanted = requirements((STAGE,), ((2, 4),))
        for demand in (((2, 1), (2, 4), (2, 0)), ((2, 4), (2, 4)), ((2, 4), (2, 3), (0, 1))):
            self.assertEqual(requirements((STAGE,), demand), wanted)

    def test_no_demand_and_quantities_of_0(self):
        for demand in ((), ((2, 0),), ((0, 0), (2, 0))):
            self.assertEqual(requirements((STAGE,), demand), (((0, 0), (1, 0)), (0,)))

    def test_demands_on_materials(self):
        self.assertEqual(requirements((STAGE,), ((1, 7), (2, 4))), (((0, 4), (1, 7)), (4,)))
        self.assertEqual(requirements((STAGE,), ((1, 4), (2, 4))), (((0, 4), (1, 5)), (4,)))
        self.assertEqual(requirements((STAGE,), ((0, 7),)), (((0, 7), (1, 0)), (0,)))

    def test_initial_units_are_enough(self):
        plant = line(((0, (), (2,)), 4, EACH), (EACH, 1, EACH))
        self.assertEqual(requirements(plant, ((2, 3),)), (((0, 0),), (2, 3)))
        self.assertEqual(requirements(plant, ((2, 4),)), (((0, 2),), (3, 4)))

    def test_the_output_that_needs_the_most_cycles(self):
        plant = (((PARTS,), ((3, EACH, 1), (1, (0, (0,), (2,)), 1), (2, (0, (), (0, 3)), 1))) + REST,)
        for demand, many in ((((1, 4),), 3), (((3, 5), (1, 4)), 5), (((2, 4), (1, 4), (3, 1)), 4)):
            self.assertEqual(requirements(plant, demand), (((0, many),), (many,)))

    def test_1000_and_1001_required_cycles(self):
        plant = line(((0, (), (0, 1)), 0, EACH), (EACH, 200, (0, (), (0, 0, 0, 0, 1))))
        self.assertEqual(requirements(plant, ((2, 200),)), (((0, 400),), (800, 1000)))
        plant = line(((0, (), (0, 1)), 0, EACH), (EACH, 201, (0, (0,), (0, 0, 0, 0, 1))))
        self.assertEqual(plain_required(plant, ((2, 200),))[1], (800, 1001))
        self.too_much(plant, ((2, 200),))

    def test_1000_and_1001_required_units(self):
        for stock, fits in ((1, True), (0, False)):
            plant = line((EACH, 0, (0, (), (1, 4))), ((0, (1,), (4, 4, 4)), stock, EACH),
                         ((0, (), (5,)), 0, (0, (), (4,))))
            self.assertEqual(plain_required(plant, ((3, 200), (2, 251)))[0][1], 1001 - stock)
            if fits:
                self.assertEqual(requirements(plant, ((3, 200), (2, 251))), (((0, 400),), (400, 251, 50)))
            else:
                self.too_much(plant, ((3, 200), (2, 251)))

    def test_1000_and_1001_required_units_of_a_material(self):
        for many, fits in ((1000, True), (1001, False)):
            plant = line(((0, (many - 800,), (4,)), 0, EACH))
            if fits:
                self.assertEqual(requirements(plant, ((1, 201),)), (((0, 1000),), (201,)))
            else:
                self.too_much(plant, ((1, 201),))

    def too_much(self, plant, demand):
        for call in (lambda: requirements(plant, demand), lambda: shortages(plant, (), demand)):
            with self.assertRaises(TooMuch) as caught:
                call()
            self.assertIs(type(caught.exception), TooMuch)


class ShortagesTest(unittest.TestCase):
    def test_example_of_the_document(self):
        self.assertEqual(shortages((STAGE,), ((1, 3),), ((2, 1), (2, 4))), ((0, 4), (1, 2)))

    def test_against_requirements(self):
        maker = Maker(84)
        for _ in range(120):
            plant = maker.plant()
            demand, receipts = demand_of(maker, plant, 9), maker.receipts(plant, 30)
            units, cycles = plain_required(plant, demand)
            if max(cycles) <= 1000 and max(units.values()) <= 1000:
                got = dict(receipts)
                wanted = tuple((material, units[material] - got.get(material, 0)) for material in materials(plant))
                self.assertEqual(shortages(plant, receipts, demand), tuple(row for row in wanted if row[1] > 0))

    def test_just_enough_and_one_less(self):
        self.assertEqual(shortages((STAGE,), ((1, 5), (0, 4)), ((2, 4),)), ())
        self.assertEqual(shortages((STAGE,), ((1, 4), (0, 4)), ((2, 4),)), ((1, 1),))
        self.assertEqual(shortages((STAGE,), ((1, 9), (0, 3)), ((2, 4),)), ((0, 1),))
        self.assertEqual(shortages((STAGE,), (), ()), ())

    def test_required_units_as_receipts(self):
        plant = line(((0, (), (4,)), 0, EACH), (EACH, 0, EACH))
        receipts = requirements(plant, ((2, 200),))[0]
        self.assertEqual(receipts, ((0, 800),))
        self.assertEqual(shortages(plant, receipts, ((2, 200),)), ())
        self.assertEqual(alone(plant, receipts, 2), ((0, 200),))


class AloneTest(unittest.TestCase):
    def test_example_of_the_document(self):
        self.assertEqual(alone((STAGE,), ((0, 6), (1, 5)), 2), ((0, 7), (1, 4)))
        self.assertEqual(bottlenecks((STAGE,), ((0, 6), (1, 5)), 2), (1,))

    def test_cycle_by_cycle(self):
        maker, seen = Maker(85), []
        while len(seen) < 700 or len(set(seen)) < 4:
            plant = maker.plant()
            receipts, floor = maker.receipts(plant, maker.choice((30, 200))), Floor(plant)
            floor.complete(receipts)
            for buffer in buffers(plant):
                got = dict(receipts)
                runs = {material: plain.alone(plant, material, got.get(material, 0))
                        for material in depends(plant, buffer)}
                sizes = [size for cycles, units in runs.values() for rows in (cycles, units) for size in rows.values()]
                seen.append((floor.is_too_much(), max(sizes) > 1000))
                if floor.is_too_much() or max(sizes) > 1000:
                    self.too_much(plant, receipts, buffer)
                    continue
                wanted = tuple((material, runs[material][1][buffer]) for material in depends(plant, buffer))
                self.assertEqual(alone(plant, receipts, buffer), wanted)
                least = [material for material, units in wanted if units == floor.totals[buffer]]
                self.assertEqual(bottlenecks(plant, receipts, buffer), tuple(least))
                self.assertEqual(min(units for _, units in wanted), floor.totals[buffer])

    def test_more_of_all_other_materials_does_not_help_with_a_bottleneck(self):
        maker, tried = Maker(850), 0
        while tried < 100:
            plant = maker.plant()
            receipts = maker.receipts(plant, 9)
            for buffer in buffers(plant):
                try:
                    found = bottlenecks(plant, receipts, buffer)
                except TooMuch:
                    continue
                tried += 1
                for material in depends(plant, buffer):
                    floor = Floor(plant)
                    floor.complete(tuple((other, dict(receipts).get(other, 0) if other == material else 150)
                                         for other in materials(plant)))
                    first = Floor(plant)
                    first.complete(receipts)
                    if not floor.is_too_much():
                        same = floor.totals[buffer] == first.totals[buffer]
                        self.assertTrue(same or material not in found)

    def test_a_material_and_receipts_left_out(self):
        self.assertEqual(alone((STAGE,), ((0, 6),), 0), ((0, 6),))
        self.assertEqual(alone((STAGE,), ((0, 6),), 1), ((1, 0),))
        self.assertEqual(bottlenecks((STAGE,), ((0, 6),), 1), (1,))
        self.assertEqual(alone((STAGE,), (), 2), ((0, 0), (1, 0)))
        self.assertEqual(bottlenecks((STAGE,), (), 2), (0, 1))

    def test_inputs_that_do_not_depend_on_the_material_support_any_number(self):
        plant = line(((0, (), (3,)), 0, EACH)) + (((
            (1, EACH, 2, False), (7, (0, (), (2,)), 1, False)), ((3, (0, (), (2,)), 1), (9, EACH, 1))) + REST,)
        self.assertEqual(alone(plant, ((0, 10), (7, 1)), 3), ((0, 10), (7, 2)))
        self.assertEqual(bottlenecks(plant, ((7, 1), (0, 10)), 3), (7,))
        self.assertEqual(bottlenecks(plant, ((7, 9), (0, 10)), 9), (0, 7))
        self.assertEqual(alone(plant, ((0, 10), (7, 1)), 1), ((0, 3),))

    def test_several_inputs_of_a_stage_depend_on_the_material(self):
        plant = (((PARTS,), ((1, EACH, 1), (2, (0, (), (2,)), 1))) + REST,
                 (((1, (0, (), (2,)), 0, False), (2, (0, (), (3,)), 0, False)), ((3, EACH, 1),)) + REST)
        self.assertEqual(alone(plant, ((0, 9),), 3), ((0, 4),))

    def test_receipts_of_a_worst_case_as_receipts(self):
        changed = (STAGE[:1] + (((2, (0, (0,), (1, 1)), 1),),) + STAGE[2:],)
        self.assertIsNone(worst_receipts((STAGE,), changed, 2))
        changed = (STAGE[:1] + (((2, (0, (0, 1, 2, 0, 2), (1, 2)), 1),),) + STAGE[2:],)
        receipts = worst_receipts((STAGE,), changed, 2)
        self.assertEqual(min(units for _, units in alone((STAGE,), receipts, 2)),
                         min(units for _, units in alone(changed, receipts, 2)) + 1)

    def too_much(self, plant, receipts, buffer):
        for function in (alone, bottlenecks):
            with self.assertRaises(TooMuch) as caught:
                function(plant, receipts, buffer)
            self.assertIs(type(caught.exception), TooMuch)

    def test_too_much_on_completion(self):
        plant = line((EACH, 1, (0, (), (4,)))) + ((((5, EACH, 0, False),), ((6, (0, (), (6,)), 1),)) + REST,)
        self.assertEqual(alone(plant, ((5, 166),), 1), ((0, 4),))
        self.too_much(plant, ((5, 167),), 1)
        self.too_much(plant, ((5, 167),), 0)

    def test_too_much_alone_though_not_on_completion(self):
        join = (((1, EACH, 0, False), (4, EACH, 0, False)), ((2, (0, (), (5,)), 1),)) + REST
        for units, fits in ((200, True), (201, False)):
            plant = line((EACH, 0, EACH)) + (join,)
            receipts = ((0, units), (4, 3))
            if fits:
                self.assertEqual(alone(plant, receipts, 2), ((0, 1000), (4, 15)))
                self.assertEqual(alone(plant, receipts, 1), ((0, 200),))
            else:
                self.too_much(plant, receipts, 2)
                self.too_much(plant, receipts, 1)
                self.too_much(plant, receipts, 0)
            self.assertEqual(alone(plant, receipts, 4), ((4, 3),))

    def test_1000_and_1001_cycles_alone(self):
        for more, fits in ((0, True), (1, False)):
            used = (0, (0,) * (10 + more) + (1,), (0,) * 9 + (1,))
            join = (((0, used, 0, False), (4, EACH, 0, False)), ((2, (0, (), (0,) * 9 + (1,)), 1),)) + REST
            self.assertEqual(plain.alone((join,), 0, 99)[0][0], 1000 + more)
            if fits:
                self.assertEqual(alone((join,), ((0, 99), (4, 2)), 2), ((0, 100), (4, 0)))
            else:
                self.too_much((join,), ((0, 99), (4, 2)), 2)


if __name__ == "__main__":
    unittest.main()
