"""Points 100 to 104: bills, what mixes require, what can be built, plants of bills; 7 and 8 where they touch these."""

import unittest

from plantrace.bills import bill_plant, buildable, check_bill, covers, exploded
from plantrace.capacity import capacities
from plantrace.completion import completed
from plantrace.errors import BadBill, TooMuch
from plantrace.inverses import lower_inverse
from plantrace.plants import check_plant
from plantrace.requirements import requirements
from plantrace.routings import normal_routing, shares
from tests.plain import Maker, branches, lower, value

EACH = (0, (), (1,))
BILL = (((), EACH, 3), (((0, (0, (), (2,))),), (0, (0,), (2,)), 0))
TWICE = (((1, EACH), (1, (0, (), (2,)))), EACH, 0)
ALWAYS = ((), (1,))


def any_bill(maker):
    """A right bill of the sizes of point 100, often with several purchased items."""
    items = []
    for number in range(maker.number(1, 4)):
        parts = [part for part in range(number) if maker.number(0, 2)][:3]
        maker.random.shuffle(parts)
        items.append((tuple((part, maker.flow()) for part in parts), maker.flow(), maker.number(0, 4)))
    return tuple(items)


def any_mix(maker, bill):
    return maker.routing(high=len(bill) - 1)


def plain_exploded(bill, mix, many):
    """Item by item from the highest number, the planned cycles counted up from 0."""
    gross = [branches(mix, many).count(item) for item in range(len(bill))]
    net, planned = [0] * len(bill), [0] * len(bill)
    for item in range(len(bill) - 1, -1, -1):
        components, production, stock = bill[item]
        net[item] = max(0, gross[item] - stock)
        if components:
            planned[item] = lower(production, net[item])
        for part, consumption in components:
            gross[part] += value(consumption, planned[item])
    return tuple(gross), tuple(net), tuple(planned)


def is_too_many(exploded_items):
    return max(exploded_items[0] + exploded_items[2]) > 1000


class ExampleTest(unittest.TestCase):
    def test_examples_of_the_document(self):
        self.assertEqual(exploded(BILL, ALWAYS, 10), ((12, 10), (9, 10), (0, 6)))
        self.assertEqual(buildable(BILL, ALWAYS, (9, 0)), 10)
        self.assertIs(covers(BILL, ALWAYS, 10, (9, 0), (0, 5)), False)
        self.assertIs(covers(BILL, ALWAYS, 10, (9, 0), (0, 6)), True)
        self.assertIs(covers(BILL, ALWAYS, 10, (9, 0), (0, 7)), False)
        with self.assertRaises(BadBill) as caught:
            check_bill(BILL + (TWICE,))
        self.assertEqual(caught.exception.item, 2)
        self.assertEqual(bill_plant(BILL), (
            (((0, (0, (), (2,)), 3, False),), ((1, (0, (0,), (2,)), 1),), (0, (), (0,)), (0, (), (0,)), 1, EACH),
        ))


class BadBillTest(unittest.TestCase):
    def wrong(self, bill, item):
        calls = (
            lambda: check_bill(bill), lambda: exploded(bill, ((), (0,)), 60), lambda: exploded(bill, ((), (0,)), 0),
            lambda: buildable(bill, ((), (0,)), (1000,) * len(bill)),
            lambda: covers(bill, ((), (0,)), 3, (0,) * len(bill), (5,) * len(bill)), lambda: bill_plant(bill),
        )
        for call in calls:
            with self.assertRaises(BadBill) as caught:
                call()
            self.assertIs(type(caught.exception), BadBill)
            self.assertEqual(caught.exception.item, item)

    def test_components_out_of_order(self):
        for part in (1, 2, 3, 9):
            self.wrong((BILL[0], (((part, EACH),), EACH, 0), ((), EACH, 0)), 1)
        self.wrong(((((0, EACH),), EACH, 0),), 0)
        self.wrong((BILL[0], (((0, EACH), (1, EACH)), EACH, 0)), 1)

    def test_components_told_twice(self):
        self.wrong(BILL + (TWICE,), 2)
        self.wrong((BILL[0], BILL[0], (((0, EACH), (1, EACH), (0, (0, (), (3,)))), EACH, 0)), 2)

    def test_the_least_wrong_item(self):
        twice = (((0, EACH), (0, EACH)), EACH, 0)
        self.wrong((BILL[0], BILL[0], twice, (((3, EACH),), EACH, 0)), 2)
        self.wrong((BILL[0], (((7, EACH),), EACH, 0), twice, twice), 1)
        self.wrong(((((1, EACH),), EACH, 0), twice), 0)

    def test_ahead_of_too_much(self):
        many = (((0, (0, (), (4,))),), (0, (), (0, 0, 0, 1)), 0), (((1, (0, (), (4,))),), (0, (), (0, 0, 0, 1)), 0)
        with self.assertRaises(TooMuch):
            exploded((BILL[0],) + many, ((), (2,)), 60)
        self.wrong((BILL[0],) + many + ((((3, EACH),), EACH, 0),), 3)

    def test_right_bills(self):
        maker = Maker(100)
        for _ in range(100):
            self.assertIsNone(check_bill(any_bill(maker)))


class ExplodedTest(unittest.TestCase):
    def test_item_by_item(self):
        maker, seen = Maker(101), []
        while len(seen) < 300 or len(set(seen)) < 2:
            bill = any_bill(maker)
            mix, many = any_mix(maker, bill), maker.choice((0, 1, 12, 60, maker.number(0, 60)))
            wanted = plain_exploded(bill, mix, many)
            seen.append(is_too_many(wanted))
            if is_too_many(wanted):
                self.too_many(bill, mix, many)
            else:
                self.assertEqual(exploded(bill, mix, many), wanted)

    def test_purchased_items_with_any_production(self):
        for made in (EACH, (0, (4, 4), (0, 3)), (0, (0, 0, 0, 0), (0, 0, 0, 1))):
            bill = (((), made, 3),) + BILL[1:]
            self.assertEqual(exploded(bill, ALWAYS, 10), ((12, 10), (9, 10), (0, 6)))
            self.assertEqual(buildable(bill, ALWAYS, (9, 0)), 10)
            self.assertIs(covers(bill, ALWAYS, 10, (9, 0), (50, 6)), True)
            self.assertIs(covers(bill, ALWAYS, 10, (8, 0), (50, 6)), False)

    def test_items_that_occur_and_are_consumed(self):
        bill = (((), EACH, 1), (((0, (0, (), (3,))),), EACH, 2), (((1, (0, (), (2,))), (0, EACH)), EACH, 0))
        self.assertEqual(exploded(bill, ((2,), (0, 1, 2)), 6), ((16, 6, 2), (15, 4, 2), (0, 4, 2)))

    def test_no_products(self):
        self.assertEqual(exploded(BILL, ALWAYS, 0), ((0, 0), (0, 0), (0, 0)))

    def too_many(self, bill, mix, many):
        with self.assertRaises(TooMuch) as caught:
            exploded(bill, mix, many)
        self.assertIs(type(caught.exception), TooMuch)

    def test_gross_requirements_of_1000_and_1001(self):
        for first, fits in ((0, True), (1, False)):
            bill = (((), EACH, 4), (((0, (0, (4, 4 + first), (4, 4))),), (0, (), (0, 0, 0, 0, 1)), 0))
            self.assertEqual(plain_exploded(bill, ALWAYS, 50)[0], (1000 + first, 50))
            if fits:
                self.assertEqual(exploded(bill, ALWAYS, 50), ((1000, 50), (996, 50), (0, 250)))
            else:
                self.too_many(bill, ALWAYS, 50)

    def test_planned_cycles_of_1000_and_1001(self):
        slow = (0,) * 19 + (1,)
        for zeros, fits in (((), True), ((0,), False)):
            bill = (((), EACH, 0), (((0, (0, (), slow)),), (0, zeros, slow), 0))
            self.assertEqual(plain_exploded(bill, ALWAYS, 50)[2], (0, 1000 + len(zeros)))
            if fits:
                self.assertEqual(exploded(bill, ALWAYS, 50), ((50, 50), (50, 50), (0, 1000)))
            else:
                self.too_many(bill, ALWAYS, 50)

    def test_a_net_requirement_is_not_what_counts(self):
        bill = (((), EACH, 4), (((0, (0, (4, 5), (4, 4))),), (0, (), (0, 0, 0, 0, 1)), 0))
        self.assertEqual(plain_exploded(bill, ALWAYS, 50)[1], (997, 50))
        self.too_many(bill, ALWAYS, 50)


class BuildableTest(unittest.TestCase):
    def test_product_by_product(self):
        maker, seen = Maker(102), set()
        for _ in range(250):
            bill = any_bill(maker)
            mix = any_mix(maker, bill)
            high = maker.choice((0, 8, 100, 1000))
            available = tuple(maker.number(0, high) for _ in bill)
            best = 0
            for many in range(61):
                items = plain_exploded(bill, mix, many)
                short = [need > there for item, need, there in zip(bill, items[1], available) if not item[0]]
                if not is_too_many(items) and not any(short):
                    best = many
            seen.add(0 if best == 0 else 60 if best == 60 else 1)
            self.assertEqual(buildable(bill, mix, available), best)
        self.assertEqual(seen, {0, 1, 60})

    def test_the_bounds_0_and_60(self):
        bill = (((), EACH, 0), (((0, EACH),), EACH, 0))
        self.assertEqual([buildable(bill, ALWAYS, (there, 0)) for there in (0, 1, 59, 60, 61)], [0, 1, 59, 60, 60])
        self.assertEqual(buildable((((), EACH, 2),), ((), (0,)), (0,)), 2)
        self.assertEqual(buildable((((), EACH, 2),), ((), (0,)), (58,)), 60)

    def test_what_is_available_of_manufactured_items_has_no_meaning(self):
        bill = (((), EACH, 0), (((0, EACH),), EACH, 1))
        self.assertEqual([buildable(bill, ALWAYS, (7, there)) for there in (0, 5, 1000)], [8, 8, 8])

    def test_too_many_products(self):
        bill = (((), EACH, 0), (((0, (0, (), (4,))),), (0, (), (0, 0, 0, 0, 1)), 0))
        self.assertEqual(plain_exploded(bill, ALWAYS, 50)[0][0], 1000)
        self.assertEqual(buildable(bill, ALWAYS, (1000, 0)), 50)
        self.assertEqual(buildable(bill, ALWAYS, (999, 0)), 49)


class CoversTest(unittest.TestCase):
    def plain(self, bill, mix, many, available, cycles):
        """Item by item, with what is taken and what is there."""
        for number, (components, production, stock) in enumerate(bill):
            needed = branches(mix, many).count(number)
            for (parts, _, _), ran in zip(bill, cycles):
                needed += sum(value(consumption, ran) for part, consumption in parts if part == number)
            there = stock + (value(production, cycles[number]) if components else available[number])
            if needed > there:
                return False
        return True

    def test_any_cycles(self):
        maker, seen = Maker(103), []
        for _ in range(400):
            bill = any_bill(maker)
            mix, many = any_mix(maker, bill), maker.choice((0, 1, 5, 30))
            available = tuple(maker.choice((0, 20, 300)) for _ in bill)
            cycles = tuple(maker.choice((0, 3, maker.number(0, 40))) for _ in bill)
            if maker.number(0, 1):
                cycles = plain_exploded(bill, mix, many)[2]
            seen.append(covers(bill, mix, many, available, cycles))
            self.assertIs(seen[-1], self.plain(bill, mix, many, available, cycles))
        self.assertTrue(60 < sum(seen) < 340)

    def test_planned_cycles_cover_and_fewer_do_not(self):
        maker = Maker(1030)
        for _ in range(120):
            bill = any_bill(maker)
            mix, many = any_mix(maker, bill), maker.number(0, 15)
            items = plain_exploded(bill, mix, many)
            if not is_too_many(items):
                self.assertIs(covers(bill, mix, many, items[1], items[2]), True)
                for item, ran in enumerate(items[2]):
                    if ran > 0:
                        fewer = items[2][:item] + (ran - 1,) + items[2][item + 1:]
                        self.assertIs(covers(bill, mix, many, items[1], fewer), False)

    def test_cycles_of_purchased_items_have_no_meaning(self):
        for ran in (0, 1, 1000):
            self.assertIs(covers(BILL, ALWAYS, 10, (9, 0), (ran, 6)), True)
            self.assertIs(covers(BILL, ALWAYS, 10, (8, 0), (ran, 6)), False)

    def test_what_is_available_of_manufactured_items_has_no_meaning(self):
        self.assertIs(covers(BILL, ALWAYS, 10, (9, 1000), (0, 5)), False)

    def test_many_cycles(self):
        bill = (((), EACH, 0), (((0, EACH),), EACH, 0))
        self.assertIs(covers(bill, ALWAYS, 60, (1000, 0), (0, 1000)), True)
        self.assertIs(covers(bill, ALWAYS, 60, (999, 0), (0, 1000)), False)


class BillPlantTest(unittest.TestCase):
    def test_any_bills(self):
        maker, seen = Maker(104), set()
        for _ in range(300):
            bill = any_bill(maker)
            used = [part for components, _, _ in bill for part, _ in components]
            plant = bill_plant(bill)
            seen.add(plant is None)
            if not used or len(used) > len(set(used)):
                self.assertIsNone(plant)
                continue
            self.assertIsNone(check_plant(plant))
            made = [item for item, row in enumerate(bill) if row[0]]
            self.assertEqual([len(plant)] + [stage[1][0][0] for stage in plant], [len(made)] + made)
            for item, stage in zip(made, plant):
                feeds, outputs, *rest = stage
                self.assertEqual(feeds, tuple((part, used, bill[part][2], False) for part, used in bill[item][0]))
                self.assertEqual(outputs, ((item, bill[item][1], 1),))
                self.assertEqual(rest, [(0, (), (0,)), (0, (), (0,)), 1, EACH])
        self.assertEqual(seen, {True, False})

    def test_no_item_is_manufactured(self):
        self.assertIsNone(bill_plant((((), EACH, 3),)))
        self.assertIsNone(bill_plant((((), EACH, 3), ((), EACH, 0))))

    def test_an_item_that_is_a_component_of_two_items(self):
        made = ((0, EACH),)
        self.assertIsNone(bill_plant((((), EACH, 3), (made, EACH, 0), (made, EACH, 0))))
        twice = (((1, EACH),), EACH, 0)
        self.assertIsNone(bill_plant((((), EACH, 3), (made, EACH, 0), twice, twice)))
        self.assertEqual(len(bill_plant((((), EACH, 3), (made, EACH, 0), (((1, EACH),), EACH, 0)))), 2)

    def test_components_in_their_order_and_curves_as_they_were_passed(self):
        odd, other = (0, (1, 1), (1, 1)), (0, (2, 3), (3, 3, 3))
        bill = ((), EACH, 3), ((), odd, 4), (((1, odd), (0, other)), (0, (4,), (4, 4)), 2)
        self.assertEqual(bill_plant(bill), ((
            ((1, odd, 4, False), (0, other, 3, False)), ((2, (0, (4,), (4, 4)), 1),),
            (0, (), (0,)), (0, (), (0,)), 1, EACH),))

    def test_the_plant_makes_what_is_planned(self):
        maker, tried = Maker(1040), 0
        while tried < 40:
            bill = any_bill(maker)
            plant = bill_plant(bill)
            if plant is None:
                continue
            tried += 1
            last = max(item for item, row in enumerate(bill) if row[0])
            items = plain_exploded(bill, ((), (last,)), 6)
            if is_too_many(items) or bill[last][2] > 0:
                continue
            needed, cycles = requirements(plant, ((last, 6),))
            self.assertEqual(list(cycles), [many for item, many in enumerate(items[2]) if bill[item][0]])
            self.assertEqual([(part, many) for part, many in needed if many != items[1][part]], [])
            self.assertGreaterEqual(dict(completed(plant, needed)[1])[last], 6)


class PassedOnTest(unittest.TestCase):
    def test_returned_curves_and_routings_in_a_bill(self):
        flow = lower_inverse((0, (2,), (20, 9, 15)))
        mix = normal_routing(((1, 0, 0, 1), (1, 1, 1, 0)))
        bill = (((), EACH, 3), (((0, flow),), shares(mix, 2)[1], 0))
        for many in (0, 7, 60):
            self.assertEqual(exploded(bill, mix, many), plain_exploded(bill, mix, many))
        self.assertEqual(bill_plant(bill)[0][0], ((0, flow, 3, False),))

    def test_the_plant_of_a_bill_as_a_plant(self):
        plant = bill_plant(BILL)
        self.assertEqual(capacities(plant)[1], (1, 0, (0, (), (2, 0))))


if __name__ == "__main__":
    unittest.main()
