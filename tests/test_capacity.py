"""Points 80 to 82: capacity curves, and when they are too large; 6 to 8 where they touch these."""

import unittest

from plantrace.capacity import capacities, cycle_capacities
from plantrace.curves import normal, total
from plantrace.errors import TooLarge, TooMuch
from plantrace.inverses import lower_inverse
from plantrace.plants import buffers, depends
from tests.plain import Floor, Maker, alone, is_normal, longer, value, values
from tests.plain_capacity import POINTS, named_curves, sizes
from tests.samples import EACH, REST, STAGE, stage


class ExampleTest(unittest.TestCase):
    def test_examples_of_the_document(self):
        self.assertEqual(cycle_capacities((STAGE,)), ((0, 0, (0, (), (1,))), (0, 1, (1, (), (1, 0)))))
        self.assertEqual(capacities((STAGE,)), (
            (0, 0, (0, (), (1,))), (1, 1, (0, (), (1,))), (2, 0, (0, (0,), (1, 2))), (2, 1, (0, (), (1, 0, 2, 0))),
        ))


class CapacityTest(unittest.TestCase):
    def test_cycle_by_cycle(self):
        maker = Maker(81)
        for _ in range(120):
            plant = maker.plant()
            try:
                found, cycles = capacities(plant), cycle_capacities(plant)
            except TooLarge:
                continue
            for many in (0, 1, 2, 3, maker.number(4, 30), maker.number(31, 90)):
                for buffer, material, curve in found:
                    self.assertEqual(value(curve, many), alone(plant, material, many)[1][buffer], plant)
                for number, material, curve in cycles:
                    self.assertEqual(value(curve, many), alone(plant, material, many)[0][number], plant)

    def test_all_pairs_in_order_and_in_normal_form(self):
        maker = Maker(810)
        for _ in range(80):
            plant = maker.plant()
            try:
                found, cycles = capacities(plant), cycle_capacities(plant)
            except TooLarge:
                continue
            pairs = [(buffer, material) for buffer in buffers(plant) for material in depends(plant, buffer)]
            self.assertEqual([row[:2] for row in found], pairs)
            pairs = [(k, material) for k, (_, outputs, *_) in enumerate(plant)
                     for material in depends(plant, outputs[0][0])]
            self.assertEqual([row[:2] for row in cycles], pairs)
            self.assertTrue(all(is_normal(row[2]) and len(row) == 3 for row in found + cycles))
            self.assertEqual({type(rows) for rows in (found, cycles, found[0], cycles[0])}, {tuple})

    def test_totals_on_completion_are_the_least_values(self):
        maker = Maker(811)
        for _ in range(120):
            plant = maker.plant()
            try:
                found = capacities(plant)
            except TooLarge:
                continue
            receipts, floor = maker.receipts(plant, 20), Floor(plant)
            floor.complete(receipts)
            if floor.is_too_much():
                continue
            units = dict(receipts)
            for buffer, there in floor.totals.items():
                heights = [value(curve, units.get(material, 0)) for name, material, curve in found if name == buffer]
                self.assertEqual(there, min(heights))

    def test_a_material_for_itself(self):
        self.assertEqual(capacities((stage(((7, (0, (), (4,)), 3),), ((1, (0, (), (4,))),)),))[1], (7, 7, EACH))

    def test_inputs_that_do_not_depend_on_the_material_do_not_limit(self):
        first = stage(((5, EACH, 0),), ((6, EACH), (3, (0, (), (2,)))))
        second = stage(((6, EACH, 1), (9, (0, (), (3,)), 0), (3, (0, (), (4,)), 0)), ((2, EACH),))
        self.assertEqual(capacities((first, second)), (
            (2, 5, (0, (), (0, 1))), (2, 9, (0, (), (0, 0, 1))), (3, 5, (0, (), (2,))), (5, 5, EACH), (6, 5, EACH),
            (9, 9, EACH),
        ))
        self.assertEqual(cycle_capacities((first, second)), (
            (0, 5, EACH), (1, 5, (0, (), (0, 1))), (1, 9, (0, (), (0, 0, 1))),
        ))

    def test_a_tool_input_supports_all_cycles_until_the_next_tool(self):
        feeds = ((0, (0, (), (2,)), 0, False), (1, (0, (), (1, 0)), 0, True))
        plant = ((feeds, ((2, EACH, 1),)) + REST,)
        self.assertEqual(cycle_capacities(plant), ((0, 0, (0, (), (0, 1))), (0, 1, (0, (), (2,)))))

    def test_initial_units_and_cycles_that_take_nothing(self):
        plant = (stage(((0, (0, (0, 2, 0), (3, 0)), 2),), ((1, (0, (0,), (1, 0, 2))),)),)
        self.assertEqual([value(cycle_capacities(plant)[0][2], units) for units in range(8)], [3, 3, 3, 5, 5, 5, 7, 7])
        self.assertEqual([value(capacities(plant)[1][2], units) for units in range(8)], [1, 1, 1, 4, 4, 4, 6, 6])

    def test_arguments_stay(self):
        plant = (stage(((0, (0, (1, 1), (1, 1)), 2),), ((1, (0, (2,), (2, 2))),)),)
        capacities(plant)
        self.assertEqual(plant, (stage(((0, (0, (1, 1), (1, 1)), 2),), ((1, (0, (2,), (2, 2))),)),))


class TooLargeTest(unittest.TestCase):
    def too_large(self, plant):
        for function in (capacities, cycle_capacities):
            with self.assertRaises(TooLarge) as caught:
                function(plant)
            self.assertIs(type(caught.exception), TooLarge)

    def agree(self, plant, points):
        """The program's curves have the values of the plain ones."""
        named = named_curves(plant, points)
        for number, material, curve in cycle_capacities(plant):
            self.assertEqual(values(curve, points), named["cycles", number, material])
        makers = {output[0]: number for number, row in enumerate(plant) for output in row[1]}
        for buffer, material, curve in capacities(plant):
            if buffer != material:
                self.assertEqual(values(curve, points), named["buffer", makers[buffer], material, buffer])

    def at_this_place_alone(self, place, just, beyond):
        """Just too large at this place, with 61 elements, is one plant; the other one is not, with 60."""
        found = sizes(just)
        self.assertEqual((found[place], max(found.values())), (60, 60))
        self.agree(just, 300)
        found = sizes(beyond)
        self.assertEqual(found.pop(place), 61)
        self.assertLessEqual(max(found.values()), 60)
        self.too_large(beyond)

    def test_upper_inverse_of_a_consumption(self):
        first, second = (
            (stage(((0, EACH, 0),), ((1, total(((0, (), (many,)), (0, (), (20,)), (0, (), (20,))))),)),
             stage(((1, (0, (), (20, 20, 19, last)), 0),), ((2, EACH),)))
            for many, last in ((20, 1), (21, 2))
        )
        self.at_this_place_alone(("inverse", 1, 0), first, second)

    def test_upper_inverse_with_a_transient_part(self):
        first, second = (
            (stage(((0, EACH, 0),), ((1, (0, (sum(used),), (5,))),)),
             stage(((1, (0, used, (3, 0, 1, 1)), 0),), ((2, EACH),)))
            for used in ((16, 20, 20), (17, 20, 20))
        )
        self.at_this_place_alone(("inverse", 1, 0), first, second)

    def test_production(self):
        first, second = (
            (stage(((0, (0, (0,) * many, (0,) * (many - 1) + (1,)), 0),), ((1, (0, (), (0,) * (many - 1) + (1,))),)),)
            for many in (60, 61)
        )
        self.at_this_place_alone(("production", 0, 0), first, second)

    def test_production_with_a_transient_part(self):
        first, second = (
            (stage(((0, (0, (), (0,) * 58 + (1,)), 0),), ((1, EACH), (2, (0, before, (1,) + (0,) * 58)))),)
            for before in ((2,), (2, 2))
        )
        self.at_this_place_alone(("production", 0, 1), first, second)

    def test_input_capacity(self):
        first, second = (
            (stage(((0, EACH, 0),), ((1, made), (2, EACH))),
             stage(((1, used, stock), (2, (0, (), (9,)), 0)), ((3, EACH),)))
            for made, used, stock in (
                ((0, (2,), (4, 2, 1, 4, 2)), (0, (2,), (3, 2, 3, 4)), 4),
                ((0, (), (2, 4, 3, 3, 1)), (0, (4,), (6, 3, 3)), 0),
            )
        )
        self.at_this_place_alone(("input", 1, 0, 0), first, second)

    def test_joint_capacity_of_the_first_two_of_three(self):
        first, second = (
            (stage(((0, EACH, 0),), ((1, one), (2, two), (4, EACH))),
             stage(((1, using, stock), (2, taking, more), (4, (0, (), (20,)), 0)), ((3, EACH),)))
            for one, two, using, stock, taking, more in (
                ((0, (), (3,)), (0, (), (4, 3, 4, 2)), (0, (), (3,)), 1, (0, (), (4, 4, 4, 3)), 2),
                ((0, (), (0, 0, 1, 4)), (0, (), (2, 2)), (0, (), (4, 1, 1, 2)), 3, (0, (), (3,)), 0),
            )
        )
        self.at_this_place_alone(("joint", 1, 0, 2), first, second)

    def test_joint_capacity_of_all_three(self):
        slow = stage(((0, EACH, 0),), ((1, (0, (), (0, 0, 1, 4))), (2, (0, (), (2, 2))), (4, (0, (), (20,)))))
        joined = stage(((4, EACH, 0), (1, (0, (), (4, 1, 1, 2)), 3), (2, (0, (), (3,)), 0)),
                       ((3, (0, (), (0,) * 59 + (1,))),))
        found = sizes((slow, joined))
        self.assertEqual((found["joint", 1, 0, 2], found["joint", 1, 0, 3]), (32, 61))
        self.too_large((slow, joined))

    def test_joint_capacity_counts_only_inputs_that_depend_on_the_material(self):
        slow = stage(((0, EACH, 0),), ((1, (0, (), (0, 0, 1, 4))), (4, EACH)))
        other = stage(((5, EACH, 0),), ((2, (0, (), (2, 2))),))
        joined = stage(((1, (0, (), (4, 1, 1, 2)), 3), (2, (0, (), (3,)), 0), (4, (0, (), (20,)), 0)), ((3, EACH),))
        self.assertLessEqual(max(sizes((slow, other, joined)).values()), 60)
        self.agree((slow, other, joined), 300)

    def test_capacity_curve_of_a_buffer(self):
        first, second = (
            (stage(((0, (0, (), used), 0),), ((2, EACH), (1, (0, before, (1, 2, 0, 1, 3))))),)
            for used, before in (((3, 2, 4, 3), ()), ((1, 2, 5, 4), (4,)))
        )
        self.at_this_place_alone(("buffer", 0, 0, 1), first, second)

    def test_a_material_that_is_not_the_first_one(self):
        for used, before, fits in (((3, 2, 4, 3), (), True), ((1, 2, 5, 4), (4,), False)):
            plant = (stage(((0, EACH, 0), (1, (0, (), used), 0)), ((2, EACH), (3, (0, before, (1, 2, 0, 1, 3))))),)
            if fits:
                self.assertEqual(len(capacities(plant)), 6)
            else:
                self.too_large(plant)

    def test_nearly_equal_rates(self):
        """The slower capacity is above the other one for very many points, its minimum not to be worked out."""
        used = {many: (0, (), (1,) * (many - 2) + (2,)) for many in (59, 58)}
        plant = (stage(((0, EACH, 0),), ((1, EACH), (2, EACH))),
                 stage(((1, used[58], 20), (2, used[59], 0)), ((3, EACH),)))
        self.assertEqual([sizes(plant)[name] for name in (("input", 1, 0, 0), ("input", 1, 0, 1))], [58, 59])
        self.too_large(plant)
        self.too_large((plant[0], stage(((2, used[59], 0), (1, used[58], 20)), ((3, EACH),))))

    def test_elements_are_counted_in_normal_form(self):
        each = longer(EACH, 50, 48)
        plant = (stage(((0, longer((0, (), (2, 1)), 20, 40), 1),), ((1, each), (2, longer((0, (), (1, 3)), 45, 9)))),)
        self.assertEqual(capacities(plant), capacities((
            stage(((0, (0, (), (2, 1)), 1),), ((1, EACH), (2, normal((0, (), (1, 3)))))),)))

    def test_curves_that_do_not_count(self):
        long = lower_inverse((0, (), (20, 20, 20, 20)))
        plant = (STAGE[:2] + (long, long, 1, long),)
        self.assertEqual(capacities(plant), capacities((STAGE,)))

    def test_any_plants_point_by_point(self):
        maker, seen = Maker(82), set()
        while len(seen) < 2 or maker.number(0, 60):
            plant = maker.plant()
            if max(heights[-1] for heights in named_curves(plant, 300).values()) > 12000:
                continue
            found = sizes(plant)
            seen.add(max(found.values()) > 60)
            if max(found.values()) > 60:
                self.too_large(plant)
            else:
                self.agree(plant, POINTS)


class PassedOnTest(unittest.TestCase):
    def test_returned_curves_in_a_plant(self):
        flow = lower_inverse((0, (2,), (20, 9, 15)))
        plant = (stage(((0, (0, (2,), (1,)), 3),), ((1, EACH),)), stage(((1, EACH, 4),), ((2, flow), (3, EACH))))
        for buffer, material, curve in capacities(plant):
            for many in range(0, 120, 7):
                self.assertEqual(value(curve, many), alone(plant, material, many)[1][buffer])

    def test_another_error_for_too_much(self):
        self.assertFalse(issubclass(TooLarge, TooMuch))


if __name__ == "__main__":
    unittest.main()
