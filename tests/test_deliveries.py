"""Points 260 to 262: deliveries, the capacities needed for them, when the curves are too large; 6 to 8 for these."""

import unittest

from plantrace.curves import total
from plantrace.deliveries import buffer_capacities
from plantrace.errors import TooLarge, TooMuch
from plantrace.inverses import lower_inverse
from tests.plain import Maker, is_normal, longer, sources, values
from tests.plain_deliveries import behind, named_curves, sizes
from tests.plain_schedules import plain_products
from tests.samples import EACH, SHOP, STAGE, line, stage

POINTS = 400


def any_deliveries(maker, plant):
    rows = [(material, maker.curve(initial=6, high=5)) for material in sorted(sources(plant)) if maker.number(0, 6)]
    maker.random.shuffle(rows)
    return tuple(rows)


class CapacitiesTest(unittest.TestCase):
    def test_examples_of_the_document(self):
        self.assertEqual(
            buffer_capacities((STAGE,), ((0, (0, (), (2,))), (1, (0, (), (0, 8))))),
            (((0, (), (1, 3)),), ((2, (0, (0,), (4, 2))),), (((1, 1), (3, 0)),)))
        self.assertEqual(
            buffer_capacities((STAGE,), ((0, EACH), (1, (0, (), (4,))))),
            ((EACH,), ((2, (0, (0,), (1, 2))),), (((0, 0), None),)))

    def agree(self, plant, deliveries, points=POINTS):
        """Compares with the values of the curves; the greatest units on hand are looked for among them."""
        found = named_curves(plant, deliveries, points)
        cycles, products, needs = buffer_capacities(plant, deliveries)
        self.assertTrue(all(is_normal(curve) for curve in cycles))
        self.assertEqual([values(curve, points) for curve in cycles], [found["cycles", s] for s in range(len(plant))])
        self.assertEqual([product for product, _ in products], plain_products(plant))
        made = {name[2]: heights for name, heights in found.items() if name[0] == "buffer"}
        for product, curve in products:
            self.assertTrue(is_normal(curve))
            self.assertEqual(values(curve, points), made[product])
        self.assertEqual([len(row) for row in needs], [len(stage[0]) for stage in plant])
        for s, row in enumerate(needs):
            for i, need in enumerate(row):
                self.hands_agree(found["hand", s, i], need)

    def hands_agree(self, hands, need):
        half = len(hands) // 2
        if need is None:
            self.assertGreater(max(hands[half:]), max(hands[:half]))
        else:
            self.assertEqual(need, (max(hands), hands.index(max(hands))))

    def test_completed_one_by_one(self):
        maker, tried = Maker(260), 0
        while tried < 60:
            plant = maker.plant()
            deliveries = any_deliveries(maker, plant)
            try:
                cycles, products, needs = buffer_capacities(plant, deliveries)
            except TooLarge:
                continue
            tried += 1
            hands = []
            for n in range(14):
                outcome = behind(plant, deliveries, n)
                if outcome is None:
                    break
                self.assertEqual(outcome[0], tuple(values(curve, n + 1)[n] for curve in cycles))
                totals = dict(outcome[1])
                self.assertEqual([totals[product] for product, _ in products],
                                 [values(curve, n + 1)[n] for _, curve in products])
                hands.append(outcome[2])
            for s, row in enumerate(needs):
                for i, need in enumerate(row):
                    there = [hand[s][i] for hand in hands]
                    if need is not None:
                        self.assertLessEqual(max(there), need[0])
                        self.assertTrue(need[1] >= len(there) or there[need[1]] == need[0])
                        self.assertNotIn(need[0], there[:need[1]])

    def test_number_by_number(self):
        maker, seen = Maker(261), set()
        tried = 0
        while tried < 100:
            plant = maker.plant()
            deliveries = any_deliveries(maker, plant)
            try:
                needs = buffer_capacities(plant, deliveries)[2]
            except TooLarge:
                continue
            found = named_curves(plant, deliveries, 150)
            if max(heights[-1] for heights in found.values()) > 2000:
                continue
            tried += 1
            seen.update(need is None for row in needs for need in row)
            self.agree(plant, deliveries)
        self.assertEqual(seen, {True, False})

    def test_no_deliveries(self):
        self.assertEqual(buffer_capacities(SHOP, ()), (
            ((0, (), (0,)), (0, (), (0,))), ((3, (0, (), (0,))),), (((0, 0), (0, 0)), ((1, 0),))))

    def test_a_material_without_deliveries(self):
        cycles, products, needs = buffer_capacities((STAGE,), ((0, EACH),))
        self.assertEqual((cycles, products), (((0, (1,), (0,)),), ((2, (0, (), (0,))),)))
        self.assertEqual(needs, ((None, (3, 0)),))

    def test_bounded_deliveries(self):
        plant = line(((0, (), (2,)), 1, EACH))
        self.assertEqual(buffer_capacities(plant, ((0, (2, (3, 0, 1), (0,))),)), (
            ((1, (2,), (0,)),), ((1, (1, (2,), (0,))),), (((1, 0),),)))
        self.agree(plant, ((0, (2, (3, 0, 1), (0,))),))

    def test_units_before_the_first_delivery(self):
        plant = line(((0, (), (4,)), 3, EACH))
        self.assertEqual(buffer_capacities(plant, ((0, (20, (), (4,))),)), (
            ((5, (), (1,)),), ((1, (5, (), (1,))),), (((3, 0),),)))

    def test_no_bound(self):
        plant = (stage(((0, EACH, 0), (1, EACH, 0)), ((2, EACH),)),)
        self.assertEqual(buffer_capacities(plant, ((0, (0, (), (1,))), (1, (0, (), (2,)))))[2], (((0, 0), None),))
        self.assertEqual(buffer_capacities(plant, ((0, (0, (), (0,))), (1, (0, (5,), (0,)))))[2], (((0, 0), (5, 1)),))

    def test_the_least_number_of_deliveries(self):
        plant = (stage(((0, (0, (), (3,)), 0),), ((2, EACH),)),)
        self.assertEqual(buffer_capacities(plant, ((0, (0, (), (1,))),))[2], (((2, 2),),))
        self.assertEqual(buffer_capacities(plant, ((0, (2, (), (1,))),))[2], (((2, 0),),))
        self.assertEqual(buffer_capacities(plant, ((0, (0, (), (0, 0, 5))),))[2], (((2, 3),),))

    def test_a_queue_between_two_stages(self):
        plant = line((EACH, 0, (0, (), (3,))), ((0, (), (4,)), 2, EACH))
        self.assertEqual(buffer_capacities(plant, ((0, EACH),))[2], (((0, 0),), ((3, 3),)))
        self.agree(plant, ((0, EACH),))

    def test_tools(self):
        deliveries = ((0, (0, (), (2,))), (1, (1, (), (0, 0, 0, 1))))
        self.agree(SHOP, deliveries)
        self.assertEqual(buffer_capacities(SHOP, deliveries)[2], ((None, (1, 0)), ((1, 0),)))

    def test_several_products_in_ascending_order(self):
        plant = (stage(((0, EACH, 0),), ((7, EACH), (3, (0, (), (0, 2))))),)
        self.assertEqual(buffer_capacities(plant, ((0, EACH),))[1], ((3, (0, (), (0, 2))), (7, EACH)))

    def test_longer_forms_and_returned_curves(self):
        plant = line((longer((0, (), (1, 2)), 3, 4), 2, longer((0, (2,), (3, 1)), 2, 3)))
        short = line(((0, (), (1, 2)), 2, (0, (2,), (3, 1))))
        given = ((0, longer((1, (), (2,)), 9, 5)),)
        self.assertEqual(buffer_capacities(plant, given), buffer_capacities(short, ((0, (1, (), (2,))),)))
        returned = lower_inverse((0, (2,), (3, 4)))
        self.agree(short, ((0, returned),))


class TooLargeTest(unittest.TestCase):
    """The elements are counted from values worked out number by number."""

    def too_large(self, plant, deliveries):
        with self.assertRaises(TooLarge) as caught:
            buffer_capacities(plant, deliveries)
        self.assertIs(type(caught.exception), TooLarge)
        self.assertFalse(issubclass(TooLarge, TooMuch))

    def at_this_place_alone(self, place, just, beyond):
        """Of all the curves of two plants with deliveries only the one at this place is large: 60 and 61 elements."""
        found = sizes(*just)
        self.assertEqual((found[place], max(found.values())), (60, 60))
        CapacitiesTest.agree(self, *just)
        found = sizes(*beyond)
        self.assertEqual(found.pop(place), 61)
        self.assertLessEqual(max(found.values()), 60)
        self.too_large(*beyond)

    hands_agree = CapacitiesTest.hands_agree

    def shop(self, feeds, outputs, deliveries):
        """A plant with one stage, with flows and stocks of its inputs, the flows of its outputs, and deliveries."""
        feeds = tuple((buffer, flow, stock) for buffer, (flow, stock) in enumerate(feeds))
        outputs = tuple((10 + place, flow) for place, flow in enumerate(outputs))
        return (stage(feeds, outputs),), tuple(enumerate(deliveries))

    def test_upper_inverse_of_a_consumption(self):
        first, second = (
            self.shop([((0, (), (20, 20, 19, last)), 0)], [EACH], [total(((0, (), (20,)),) * 2 + ((0, (), (many,)),))])
            for many, last in ((20, 1), (21, 2))
        )
        self.at_this_place_alone(("inverse", 0, 0), first, second)

    def test_upper_inverse_where_the_supply_is_small(self):
        plant, deliveries = self.shop([((0, (), (61,)), 0), ((0, (), (1,)), 0)], [EACH], [(0, (), (0,)), EACH])
        self.assertEqual(max(size for name, size in sizes(plant, deliveries).items() if name[0] != "inverse"), 1)
        self.too_large(plant, deliveries)

    def test_production(self):
        first, second = (
            self.shop([(EACH, 0)], [(0, (), (0,) * (many - 1) + (1,))], [(0, (), (many,))]) for many in (60, 61)
        )
        self.at_this_place_alone(("production", 0, 0), first, second)

    def test_a_production_that_never_begins(self):
        plant, deliveries = self.shop([(EACH, 0)], [EACH, (0, (), (0,) * 60 + (1,))], [(3, (), (0,))])
        self.too_large(plant, deliveries)

    def test_supply(self):
        first = self.shop(
            [((0, (2, 1, 2, 1), (4, 4, 2, 4)), 2), ((0, (4, 1), (0, 4)), 1), ((0, (0, 0, 1, 2), (1, 0, 1)), 3)],
            [(0, (0,), (2, 1, 2, 0)), (0, (1, 1, 0, 1), (2, 0))],
            [(0, (1, 3, 5, 3), (1, 0, 0, 0)), (0, (), (0, 0)), (0, (6, 5, 4, 5), (6, 1, 6))])
        second = self.shop(
            [((0, (4, 2, 4, 1), (4, 3, 3, 3)), 2), ((0, (2, 2, 1, 3), (2, 0, 3, 2)), 4),
                ((0, (1, 2, 2), (2, 2, 0, 2)), 3)],
            [(0, (2, 0, 0), (4, 4, 3))],
            [(0, (2,), (1, 0, 1, 1)), (0, (4, 3, 1, 3), (0,)), (0, (3, 2), (1, 0, 1))])
        self.at_this_place_alone(("supply", 0, 0), first, second)

    def test_supply_of_a_later_input(self):
        first = self.shop(
            [((0, (1, 0, 0, 1), (0, 1, 2, 2)), 3), ((0, (2, 2, 2, 1), (2, 2)), 4), ((0, (), (4, 3, 3, 4)), 3)],
            [(0, (3, 3), (0, 4))],
            [(0, (), (1, 0, 0)), (0, (1, 1, 1, 1), (2, 2)), (5, (2, 0, 1, 2), (1, 2, 6, 6))])
        second = self.shop(
            [((0, (2,), (4,)), 1), ((0, (2, 0, 0), (1, 2, 3)), 0), ((0, (1,), (4, 3, 4, 4)), 1)],
            [(0, (), (1, 1, 1, 4)), (0, (4, 3), (1, 0, 0, 2))],
            [(4, (), (1,)), (0, (3, 2, 4), (2, 2, 1)), (0, (6,), (5, 2, 4, 0))])
        self.at_this_place_alone(("supply", 0, 2), first, second)

    def test_joint_supply_of_the_first_two_of_three(self):
        first = self.shop(
            [((0, (2, 4, 0, 1), (0, 0, 1, 2)), 1), ((0, (2, 3), (1, 0, 0)), 1), ((0, (), (4,)), 0)],
            [(0, (3,), (0, 1, 0)), (0, (2, 0), (1,))],
            [(0, (1, 1, 0), (2, 0, 4, 1)), (0, (4, 6, 6, 3), (0, 1)), (0, (4,), (0, 3, 2))])
        second = self.shop(
            [((0, (1, 1, 0, 4), (1,)), 0), ((0, (3, 1, 2, 3), (2,)), 1), ((0, (), (2, 0, 0, 4)), 3)],
            [(0, (0, 0, 2), (0, 3)), (0, (0, 0, 1, 4), (1,))],
            [(0, (1, 6), (1,)), (0, (1, 0, 0, 2), (3, 0, 0, 6)), (5, (6, 5, 1, 5), (0, 1, 1))])
        self.at_this_place_alone(("joint", 0, 2), first, second)

    def test_joint_supply_of_all_three(self):
        plant, deliveries = self.shop(
            [(EACH, 0)] * 3, [(0, (), (12,))],
            [(0, (), (1, 3)), (0, (), (1, 2, 3)), (0, (), (0, 4, 1, 3, 2, 2, 1, 3, 2, 0, 4))])
        found = sizes(plant, deliveries)
        self.assertEqual((found["supply", 0, 2], found["joint", 0, 2], found["joint", 0, 3]), (11, 6, 66))
        self.too_large(plant, deliveries)

    def test_curve_of_a_buffer(self):
        first = self.shop(
            [((0, (0, 1, 0), (1,)), 0), ((0, (2, 0), (2,)), 4), ((0, (0,), (3, 3)), 1)],
            [(0, (4, 4, 4), (1, 1, 1, 1)), (0, (1, 0, 1, 1), (0, 3, 4))],
            [(0, (5, 6), (1, 0)), (0, (), (0, 3)), (0, (1, 1, 0), (0, 2, 1, 6))])
        second = self.shop(
            [((0, (2, 2, 1), (1,)), 2), ((0, (0, 1), (1, 0, 1)), 2), ((0, (), (3, 3, 1)), 2)],
            [(0, (0, 0, 0, 2), (0, 0, 3)), (0, (0, 2), (0, 1, 0, 0))],
            [(0, (), (2, 2, 1)), (2, (1,), (1, 1, 2, 2)), (0, (0, 0, 1), (1, 2, 2, 1))])
        self.at_this_place_alone(("buffer", 0, 11), first, second)

    def test_use_of_an_input(self):
        first = self.shop(
            [((0, (1, 0, 0), (0, 0, 1)), 1), ((0, (1,), (3, 0, 0, 2)), 1)], [(0, (0, 4, 3), (2, 4))],
            [(0, (), (0, 4, 2)), (0, (4, 0, 3), (0, 0, 2, 2))])
        second = self.shop(
            [((0, (1, 4), (0, 1, 1, 0)), 2), ((0, (), (0, 1, 0)), 1)], [(0, (1, 0), (0, 1)), (0, (0, 1), (2,))],
            [EACH, (0, (5, 5, 6), (1, 0, 0, 0))])
        self.at_this_place_alone(("use", 0, 0), first, second)

    def test_use_of_a_later_input(self):
        first = self.shop(
            [((0, (), (0, 3)), 0), ((0, (), (3, 3, 1)), 3), ((0, (), (0, 3, 3, 0)), 1)],
            [(0, (0, 0), (4,)), (0, (), (3, 3, 3))],
            [(3, (2, 1, 2, 0), (0, 1)), (2, (4, 6, 0, 1), (1, 1, 0)), (0, (0, 1, 2), (1, 5, 5, 0))])
        second = self.shop(
            [((0, (0,), (4, 0, 1)), 2), ((0, (), (2, 4, 4)), 0), ((0, (2,), (2, 1)), 1)], [(0, (0, 2, 1), (0, 0, 1))],
            [(1, (1, 1, 6), (1, 1, 0, 1)), (0, (3,), (0, 1, 0)), (0, (1, 0, 0, 2), (0, 1))])
        self.at_this_place_alone(("use", 0, 2), first, second)

    def test_at_a_later_stage(self):
        for many, fits in ((60, True), (61, False)):
            plant = line((EACH, 0, EACH), (EACH, 0, (0, (), (1,) * (many - 1) + (2,))))
            if fits:
                self.assertEqual(len(buffer_capacities(plant, ((0, (0, (), (60,))),))[1][0][1][2]), 1)
            else:
                self.too_large(plant, ((0, (0, (), (61,))),))

    def test_nearly_equal_rates(self):
        """The slower supply is above the other one for very many deliveries; their minimum is not worked out."""
        used = {many: (0, (), (1,) * (many - 2) + (2,)) for many in (59, 58)}
        plant = (stage(((0, used[58], 20), (1, used[59], 0)), ((2, EACH),)),)
        self.too_large(plant, ((0, EACH), (1, EACH)))
        self.too_large((stage(((1, used[59], 0), (0, used[58], 20)), ((2, EACH),)),), ((0, EACH), (1, EACH)))

    def test_deliveries_themselves_do_not_count(self):
        """These have 70 elements and 61; what the first ones supply has 1, what the second ones do as many."""
        late = (0, (1,) * 9 + (0,) * 60 + (1,), (0,))
        self.assertEqual(buffer_capacities(line(((0, (), (20,)), 0, EACH)), ((0, late),)), (
            ((0, (), (0,)),), ((1, (0, (), (0,))),), (((10, 70),),)))
        self.too_large(line((EACH, 0, EACH)), ((0, (0, (), (0,) * 60 + (1,))),))

    def test_any_plants(self):
        maker, seen = Maker(262), []
        while len(seen) < 120:
            plant = maker.plant()
            deliveries = any_deliveries(maker, plant)
            if max(heights[-1] for heights in named_curves(plant, deliveries, 200).values()) > 3000:
                continue
            found = sizes(plant, deliveries, 500)
            seen.append(max(found.values()) > 60)
            if seen[-1]:
                self.too_large(plant, deliveries)
            else:
                self.assertEqual(len(buffer_capacities(plant, deliveries)), 3)
        self.assertEqual(set(seen), {True, False})


if __name__ == "__main__":
    unittest.main()
