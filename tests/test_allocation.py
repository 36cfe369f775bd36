"""Points 42 and 43: optimal output, optimal routing, and the first loss of a routing."""

import unittest

from plantrace.allocation import first_loss, optimal_output, optimal_routing
from plantrace.curves import composed, maximum
from plantrace.inverses import lower_inverse
from plantrace.routings import normal_routing, shares
from tests.plain import Maker, branches, is_normal, is_normal_sequence, longer, step, value, values

LONG = lower_inverse((0, (), (20, 19, 18, 17)))


def some_demands(maker):
    """One to three demands, some of which do not rise for some products."""
    return tuple(maker.flow(high=maker.choice((1, 2, 4))) for _ in range(maker.number(1, 3)))


def supported(tables, units):
    """The greatest number of products whose demands the units of the branches meet."""
    n = 0
    while all(table[n + 1] <= there for table, there in zip(tables, units)):
        n += 1
    return n


def distributions(many, parts):
    """All ways of giving at most so many units to the parts."""
    if parts == 0:
        return [()]
    return [(first,) + rest for first in range(many + 1) for rest in distributions(many - first, parts - 1)]


def plain_first_loss(routing, demands, many):
    """The first loss below so many units, unit by unit, None if there is none below."""
    size = 100
    while min(value(demand, size) for demand in demands) <= many:
        size *= 2
    tables = [values(demand, size + 1) for demand in demands]
    needs = [sum(column) for column in zip(*tables)]
    units = [0] * len(demands)
    best = served = 0
    for x, name in enumerate(branches(routing, many)):
        while needs[best + 1] <= x:
            best += 1
        while all(table[served + 1] <= there for table, there in zip(tables, units)):
            served += 1
        if served < best:
            return x
        units[name] += 1
    return None


class OutputTest(unittest.TestCase):
    def test_example_of_the_document(self):
        self.assertEqual(optimal_output(((0, (), (1,)), (0, (), (2,)))), (0, (), (0, 0, 1)))

    def test_all_distributions(self):
        maker = Maker(42)
        for _ in range(60):
            demands = some_demands(maker)
            tables = [values(demand, 100) for demand in demands]
            wanted = [
                max(supported(tables, units) for units in distributions(x, len(demands))) for x in range(9)
            ]
            curve = optimal_output(demands)
            self.assertTrue(is_normal(curve))
            self.assertEqual(values(curve, 9), wanted, demands)

    def test_by_the_units_that_products_need(self):
        maker = Maker(420)
        for _ in range(200):
            demands = some_demands(maker)
            needs = [sum(column) for column in zip(*[values(demand, 2000) for demand in demands])]
            wanted = [max(n for n in range(x * 5 + 20) if needs[n] <= x) for x in range(150)]
            self.assertEqual(values(optimal_output(demands), 150), wanted)

    def test_products_that_need_nothing(self):
        self.assertEqual(optimal_output(((0, (0, 0), (0, 1)),)), (3, (), (2,)))
        self.assertEqual(optimal_output(((0, (0,), (1,)), (0, (0, 0), (1,)))), (1, (), (1, 0)))

    def test_long_demands(self):
        needs = values(LONG, 6000)
        curve = optimal_output((LONG,))
        self.assertEqual(values(curve, 300), [max(n for n in range(6000) if needs[n] <= x) for x in range(300)])


class RoutingTest(unittest.TestCase):
    def test_example_of_the_document(self):
        self.assertEqual(optimal_routing(((0, (), (1,)), (0, (), (2,)))), ((), (0, 1, 1)))

    def test_product_after_product(self):
        maker = Maker(421)
        for _ in range(200):
            demands = some_demands(maker)
            units, made = [], 0
            while len(units) < 150:
                for number, demand in enumerate(demands):
                    units += [number] * step(demand, made)
                made += 1
            routing = optimal_routing(demands)
            self.assertTrue(is_normal_sequence(*routing))
            self.assertEqual(branches(routing, 150), units[:150])

    def test_one_demand(self):
        self.assertEqual(optimal_routing(((0, (0, 3), (0, 2)),)), ((), (0,)))

    def test_demands_that_do_not_rise_for_some_products(self):
        demands = ((0, (), (0, 1)), (0, (2, 0), (0, 0, 1)))
        self.assertEqual(branches(optimal_routing(demands), 8), [1, 1, 0, 0, 1, 0, 0, 1])

    def test_no_loss(self):
        maker = Maker(422)
        for _ in range(100):
            demands = some_demands(maker)
            self.assertIsNone(first_loss(optimal_routing(demands), demands))

    def test_a_long_routing(self):
        routing = optimal_routing((LONG, (0, (), (1, 2))))
        self.assertGreater(len(routing[1]), 100)
        self.assertEqual(normal_routing(routing), routing)
        self.assertIsNone(first_loss(routing, (LONG, (0, (), (1, 2)))))
        self.assertEqual(values(shares(routing, 2)[1], 200), [
            branches(routing, x).count(1) for x in range(200)
        ])


class FirstLossTest(unittest.TestCase):
    def test_examples_of_the_document(self):
        demands = ((0, (), (1,)), (0, (), (2,)))
        self.assertEqual(first_loss(((), (0, 1)), demands), 3)
        self.assertIsNone(first_loss(((), (1, 1, 0)), demands))

    def test_unit_by_unit(self):
        maker = Maker(43)
        found = []
        for _ in range(400):
            demands = some_demands(maker)
            routing = maker.routing(high=len(demands) - 1)
            wanted = plain_first_loss(routing, demands, 600)
            found.append(wanted)
            self.assertEqual(first_loss(routing, demands), wanted, (routing, demands))
        self.assertIn(None, found)

    def test_turned_routings(self):
        maker = Maker(430)
        for _ in range(150):
            demands = some_demands(maker)
            transient, period = optimal_routing(demands)
            at = maker.number(0, len(transient + period) - 2) if len(transient + period) > 1 else 0
            units = list(transient + period)
            units[at:at + 2] = reversed(units[at:at + 2])
            routing = tuple(units[:len(transient)]), tuple(units[len(transient):])
            self.assertEqual(first_loss(routing, demands), plain_first_loss(routing, demands, 400))

    def test_one_branch_never_loses(self):
        self.assertIsNone(first_loss(((), (0,)), ((0, (4, 0), (1, 3)),)))

    def test_a_branch_that_is_never_served(self):
        self.assertEqual(first_loss(((), (0,)), ((0, (), (1,)), (0, (0, 0, 0), (1,)))), 5)
        self.assertEqual(first_loss(((), (1,)), ((0, (), (1,)), (0, (0, 0, 0), (1,)))), 1)

    def test_products_that_need_nothing(self):
        demands = ((0, (0, 0), (1,)), (0, (0, 0), (0, 1)))
        self.assertIsNone(first_loss(optimal_routing(demands), demands))
        self.assertEqual(first_loss(((), (1,)), demands), 1)
        self.assertEqual(first_loss(((), (0,)), demands), 3)

    def test_a_first_loss_far_out(self):
        demands = ((0, (), (1, 1, 1, 2)), (0, (), (1, 1, 1)))
        routing = ((0, 1) * 3, (0, 1, 0))
        self.assertEqual(first_loss(routing, demands), plain_first_loss(routing, demands, 300))
        late = longer((0,) + optimal_routing(demands), 12, 5)[1:]
        late = late[0], late[1][:-1] + (1 - late[1][-1],)
        wanted = plain_first_loss(late, demands, 900)
        self.assertGreater(wanted, 100)
        self.assertEqual(first_loss(late, demands), wanted)

    def test_the_routing_settles_long_after_the_demands(self):
        demands = ((0, (), (1,)), (0, (), (2,)))
        routing = ((0, 1, 1) * 20, (1, 1, 0))
        self.assertIsNone(first_loss(routing, demands))
        self.assertEqual(first_loss(((0, 1, 1) * 20, (1, 0)), demands), 66)
        self.assertEqual(first_loss(((0, 1, 1) * 20 + (1,), (1, 0)), demands), 69)

    def test_long_demands(self):
        demands = (LONG, composed((LONG, (0, (), (1, 1, 3)))))
        routing = optimal_routing(demands)
        self.assertIsNone(first_loss(routing, demands))
        turned = routing[0], routing[1][:-1] + (0,)
        self.assertEqual(first_loss(turned, demands), plain_first_loss(turned, demands, 900))
        other = (demands[0], maximum(LONG, (0, (), (0,) * 9 + (1,))))
        self.assertEqual(first_loss(routing, other), plain_first_loss(routing, other, 900))

    def test_long_periods_without_a_common_divisor(self):
        one, two = (0, (), (1,) + (0,) * 96), (0, (), (1,) + (0,) * 97)
        self.assertEqual(first_loss(((), (0, 1)), (one, two)), plain_first_loss(((), (0, 1)), (one, two), 400))
        routing = optimal_routing((one, two))
        self.assertIsNone(first_loss(routing, (one, two)))


if __name__ == "__main__":
    unittest.main()
