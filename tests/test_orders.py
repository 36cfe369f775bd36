"""Points 300 to 304: orders and sequences, dates, lateness, shortfalls, expediting; 6 to 8 for these."""

import itertools
import unittest

from plantrace.orders import dates, earliest_due_date, expedited, greatest_lateness, order_of, shortfall
from plantrace.schedules import earliest
from plantrace.states import loaded, totals
from tests.plain import Maker
from tests.samples import SHOP

ORDERS = ((3, 2, 9), (3, 1, 4), (5, 1, 4))
HOURS = ((3, (2, 4, 4)), (5, (7,)))


def any_orders(maker, most=6):
    return tuple((maker.choice((3, 3, 5, 8)), maker.number(1, maker.choice((3, 12))), maker.number(0, 20))
                 for _ in range(maker.number(0, most)))


def any_hours(maker):
    rows = [(product, tuple(sorted(maker.number(0, 25) for _ in range(maker.number(0, 24)))))
            for product in (8, 3, 5) if maker.number(0, 5)]
    return tuple(rows)


def any_sequence(maker, orders):
    numbers = list(range(len(orders)))
    maker.random.shuffle(numbers)
    return tuple(numbers[:maker.choice((len(numbers), maker.number(0, len(numbers))))])


class Filled:
    """The orders of a sequence, filled unit by unit."""

    def __init__(self, orders, sequence, availability=()):
        self.orders, self.sequence, self.hours = orders, sequence, dict(availability)
        self.units, given = {}, {}
        for order in sequence:
            self.units[order] = []
            for _ in range(orders[order][1]):
                product = orders[order][0]
                given[product] = given.get(product, 0) + 1
                self.units[order].append(given[product])

    def hour(self, product, unit):
        hours = self.hours.get(product, ())
        return hours[unit - 1] if unit <= len(hours) else None

    def date(self, order):
        """The hour at which all of its units are available, or None."""
        hours = [self.hour(self.orders[order][0], unit) for unit in self.units[order]]
        return None if None in hours else max(hours)

    def rows(self):
        found = []
        for order in self.sequence:
            date = self.date(order)
            on_time = date is not None and date <= self.orders[order][2]
            found.append((min(self.units[order]), max(self.units[order]), date, on_time))
        return tuple(found)

    def lateness(self):
        found = [(self.date(order), self.orders[order][2]) for order in self.sequence]
        if any(date is None for date, _ in found):
            return None
        return max([0] + [date - due for date, due in found])


class DatesTest(unittest.TestCase):
    def test_examples_of_the_document(self):
        self.assertEqual(dates(ORDERS, (0, 1, 2), HOURS), ((1, 2, 4, True), (3, 3, 4, True), (1, 1, 7, False)))
        self.assertEqual((earliest_due_date(ORDERS), greatest_lateness(ORDERS, (1, 2, 0), HOURS),
                          order_of(ORDERS, (1, 2, 0), 3, 2)), ((1, 2, 0), 3, 0))

    def test_unit_by_unit(self):
        maker, late = Maker(300), set()
        for _ in range(600):
            orders, hours = any_orders(maker), any_hours(maker)
            sequence = any_sequence(maker, orders)
            filled = Filled(orders, sequence, hours)
            self.assertEqual(dates(orders, sequence, hours), filled.rows())
            self.assertEqual(greatest_lateness(orders, sequence, hours), filled.lateness())
            late.add(filled.lateness() is None)
            for product in (3, 5, 8, 19):
                for unit in (1, 2, maker.number(1, 30), 99):
                    owners = [order for order, units in filled.units.items()
                              if orders[order][0] == product and unit in units]
                    self.assertEqual(order_of(orders, sequence, product, unit), owners[0] if owners else None)
        self.assertEqual(late, {True, False})

    def test_an_empty_sequence(self):
        self.assertEqual((dates(ORDERS, (), HOURS), greatest_lateness(ORDERS, (), ()), order_of(ORDERS, (), 3, 1)),
                         ((), 0, None))
        self.assertEqual((dates((), (), ()), greatest_lateness((), (), ()), earliest_due_date(())), ((), 0, ()))

    def test_a_sequence_without_some_orders(self):
        self.assertEqual(dates(ORDERS, (1,), HOURS), ((1, 1, 2, True),))
        self.assertEqual([order_of(ORDERS, (2, 1), 3, unit) for unit in (1, 2)], [1, None])

    def test_orders_without_a_date(self):
        self.assertEqual(dates(ORDERS, (1, 0, 2), ((3, (2, 4)),)),
            ((1, 1, 2, True), (2, 3, None, False), (1, 1, None, False)))
        self.assertIsNone(greatest_lateness(ORDERS, (1, 0), ((3, (2, 4)),)))
        self.assertEqual(greatest_lateness(ORDERS, (1,), ((3, (2, 4)),)), 0)

    def test_on_time_at_the_due_hour(self):
        self.assertEqual([dates(((3, 1, due),), (0,), ((3, (5,)),))[0][3] for due in (4, 5, 6)], [False, True, True])
        self.assertEqual([greatest_lateness(((3, 1, due),), (0,), ((3, (5,)),)) for due in (4, 5, 6)], [1, 0, 0])

    def test_one_product_does_not_matter_to_another(self):
        self.assertEqual([order_of(ORDERS, (0, 2, 1), 5, unit) for unit in (1, 2)], [2, None])
        self.assertEqual(order_of(ORDERS, (2, 0, 1), 3, 3), 1)

    def test_earliest_due_date(self):
        maker = Maker(302)
        for _ in range(200):
            orders = any_orders(maker)
            sequence = earliest_due_date(orders)
            self.assertEqual(sorted(sequence), list(range(len(orders))))
            pairs = [(orders[order][2], order) for order in sequence]
            self.assertTrue(all(one < two for one, two in zip(pairs, pairs[1:])))


class ShortfallTest(unittest.TestCase):
    def test_examples_of_the_document(self):
        self.assertEqual((shortfall(ORDERS, HOURS), shortfall(ORDERS, HOURS, late=3)), ((5, 4, 1, 0), None))

    def plain(self, orders, hours, late):
        """Product by product and hour by hour."""
        given = dict(hours)
        for product in sorted({order[0] for order in orders}):
            for hour in range(120):
                needed = sum(order[1] for order in orders if order[0] == product and order[2] <= hour)
                there = sum(1 for at in given.get(product, ()) if at <= hour + late)
                if needed > there:
                    return product, hour, needed, there
        return None

    def test_hour_by_hour(self):
        maker, seen = Maker(303), set()
        for _ in range(600):
            orders, hours, late = any_orders(maker), any_hours(maker), maker.choice((0, 1, maker.number(0, 30)))
            found = shortfall(orders, hours, late=late)
            self.assertEqual(found, self.plain(orders, hours, late))
            seen.add(found is None)
            if late == 0:
                self.assertEqual(shortfall(orders, hours), found)
        self.assertEqual(seen, {True, False})

    def test_none_exactly_if_some_sequence_keeps_the_bound(self):
        maker, seen = Maker(3030), set()
        for _ in range(150):
            orders = tuple((product, maker.number(1, 3), due) for product, _, due in any_orders(maker, most=4))
            hours, late = any_hours(maker), maker.choice((0, 0, 3, 8))
            sequences = itertools.permutations(range(len(orders)))
            found = [Filled(orders, sequence, hours).lateness() for sequence in sequences]
            kept = any(lateness is not None and lateness <= late for lateness in found)
            self.assertIs(shortfall(orders, hours, late=late) is None, kept)
            seen.add(kept)
        self.assertEqual(seen, {True, False})

    def test_at_the_bound_and_one_below(self):
        orders, hours = ((3, 2, 5),), ((3, (1, 9)),)
        self.assertEqual([shortfall(orders, hours, late=late) for late in (3, 4)], [(3, 5, 2, 1), None])

    def test_the_first_product_and_the_first_hour(self):
        orders = ((8, 1, 0), (3, 1, 7), (3, 2, 6))
        self.assertEqual(shortfall(orders, ()), (3, 6, 2, 0))
        self.assertEqual(shortfall(orders, ((3, (0, 6)),)), (3, 7, 3, 2))
        self.assertEqual(shortfall(orders, ((3, (0, 6, 7)),)), (8, 0, 1, 0))
        self.assertEqual(shortfall(orders, ((8, (0,)), (3, (0, 6, 7)))), None)

    def test_no_orders(self):
        self.assertIsNone(shortfall((), HOURS))


class ExpeditedTest(unittest.TestCase):
    def test_examples_of_the_document(self):
        self.assertEqual((expedited(ORDERS, (0, 2, 1), 1, ()), expedited(ORDERS, (0, 2, 1), 1, ((3, 1),))),
                         ((1, 0, 2), (0, 2, 1)))

    def plain(self, orders, sequence, order, units):
        filled = Filled(orders, sequence)
        waiting = [other for other in sequence if orders[other][0] == orders[order][0]
                   and filled.units[other][0] > dict(units).get(orders[other][0], 0)]
        if order not in waiting or waiting[0] == order:
            return sequence
        found = []
        for other in sequence:
            found += [order] if other == waiting[0] else []
            found += [other] if other != order else []
        return tuple(found)

    def test_any_orders(self):
        maker, moved = Maker(304), 0
        for _ in range(600):
            orders = any_orders(maker)
            sequence = any_sequence(maker, orders)
            units = tuple((product, maker.choice((0, 1, maker.number(0, 99)))) for product in (5, 3,
                8) if maker.number(0, 2))
            for order in sequence:
                wanted = self.plain(orders, sequence, order, units)
                self.assertEqual(expedited(orders, sequence, order, units), wanted)
                moved += wanted != sequence
        self.assertGreater(moved, 100)

    def test_an_order_that_has_just_started_and_one_that_has_not(self):
        orders = ((3, 2, 9), (3, 1, 4), (3, 1, 1))
        self.assertEqual(expedited(orders, (0, 1, 2), 2, ((3, 2),)), (0, 2, 1))
        self.assertEqual(expedited(orders, (0, 1, 2), 2, ((3, 3),)), (0, 1, 2))
        self.assertEqual(expedited(orders, (0, 1, 2), 2, ((3, 4),)), (0, 1, 2))
        self.assertEqual(expedited(orders, (0, 1, 2), 2, ((3, 0),)), (2, 0, 1))

    def test_the_first_order_that_has_not_started(self):
        self.assertEqual(expedited(ORDERS, (1, 0, 2), 1, ()), (1, 0, 2))
        self.assertEqual(expedited(ORDERS, (1, 2, 0), 0, ((3, 1),)), (1, 2, 0))

    def test_behind_orders_for_other_products(self):
        orders = ((5, 1, 1), (3, 1, 1), (8, 1, 1), (3, 1, 1))
        self.assertEqual(expedited(orders, (0, 1, 2, 3), 3, ()), (0, 3, 1, 2))
        self.assertEqual(expedited(orders, (0, 2, 3), 3, ()), (0, 2, 3))
        self.assertEqual(expedited(orders, (2, 0, 1), 0, ()), (2, 0, 1))

    def test_returned_totals_hours_and_sequences(self):
        state = loaded(SHOP, ((0, 4, 5), (1, 2, 5)))
        orders = ((3, 1, 4), (3, 1, 9), (3, 1, 2))
        sequence = earliest_due_date(orders)
        self.assertEqual(sequence, (2, 0, 1))
        self.assertEqual(totals(state), ((0, 4), (1, 2), (2, 2), (3, 1)))
        self.assertEqual(expedited(orders, sequence, 1, totals(state)), (2, 1, 0))
        _, hours = earliest(SHOP, ((0, (0,) * 6), (1, (1, 1))))
        self.assertEqual(dates(orders, sequence, hours), ((1, 1, 5, False), (2, 2, 9, False), (3, 3, None, False)))
        self.assertEqual(shortfall(orders, hours, late=3), (3, 4, 2, 1))


if __name__ == "__main__":
    unittest.main()
