"""Points 280 to 282: apportioning, what units cost, incurred costs and inventories; 6 to 8 for these."""

import unittest

from plantrace.costs import apportioned, report, unit_cost
from plantrace.disruptions import disrupted
from plantrace.errors import NoSuchUnit
from plantrace.states import loaded, totals
from tests.plain import Maker, Yard
from tests.plain_costs import Books, share_out
from tests.plain_schedules import timed
from tests.samples import EACH, SHOP

SMALL = loaded(SHOP, ((0, 6, 10), (1, 2, 7)))
ZERO = (0, (), (0,))


def costing(cost, outputs, feeds=((0, EACH, 0, False),)):
    """A stage with this cost curve and these outputs."""
    return feeds, outputs, cost, EACH, 1, EACH


class ApportionedTest(unittest.TestCase):
    def test_examples_of_the_document(self):
        self.assertEqual((apportioned(10, (1, 1, 1, 1, 1, 1)), apportioned(7, (0, 2, 1)), apportioned(5, (0, 0))),
                         ((1, 2, 2, 1, 2, 2), (0, 4, 3), (0, 0)))

    def test_any_costs(self):
        maker = Maker(280)
        for _ in range(1500):
            cost = maker.choice((0, maker.number(0, 30), maker.number(0, 10000)))
            weights = tuple(maker.choice((0, 1, maker.number(0, 20))) for _ in range(maker.number(0, 12)))
            found = apportioned(cost, weights)
            self.assertEqual(found, tuple(share_out(cost, weights)))
            self.assertIs(type(found), tuple)
            self.assertEqual(sum(found), cost if any(weights) else 0)

    def test_edges(self):
        self.assertEqual((apportioned(5, ()), apportioned(0, ()), apportioned(0, (3, 0)), apportioned(9, (0,))),
                         ((), (), (0, 0), (0,)))
        self.assertEqual((apportioned(9, (4,)), apportioned(1, (1, 1)), apportioned(10000, (20, 0, 20))),
                         ((9,), (0, 1), (5000, 0, 5000)))


class CostsTest(unittest.TestCase):
    def test_examples_of_the_document(self):
        self.assertEqual((unit_cost(SMALL, 2, 1), unit_cost(SMALL, 2, 2), unit_cost(SMALL, 2, 3)), (9, 6, 11))
        self.assertEqual(report(SMALL), (28, ((0, 0), (1, 0), (2, 0), (3, 28)), (0, 0)))

    def agree(self, state):
        books = Books(state)
        self.assertEqual(report(state), books.report())
        for buffer, costs in books.units.items():
            self.assertEqual([unit_cost(state, buffer, unit) for unit in range(1, len(costs) + 1)], costs)
        spent, left, carried = report(state)
        self.assertEqual(spent, sum(cost for _, cost in left) + sum(carried))
        return books

    def test_cycle_by_cycle(self):
        maker, carried = Maker(281), 0
        yard = Yard(maker)
        for _ in range(250):
            state, _ = yard.state(timed(maker, maker.plant()))
            carried += any(self.agree(state).carried)
        self.assertGreater(carried, 50)

    def test_no_lots_and_no_cycles(self):
        self.assertEqual(report((SHOP, (), (0, 0))), (0, ((0, 0), (1, 0), (2, 0), (3, 0)), (0, 0)))
        self.assertEqual(report((SHOP, ((1, 3, 10), (0, 1, 4)), (0, 0))),
            (14, ((0, 4), (1, 10), (2, 0), (3, 0)), (0, 0)))

    def test_initial_units_cost_nothing(self):
        plant = (costing(ZERO, ((1, EACH, 1),), ((0, EACH, 2, False),)),)
        state = loaded(plant, ((0, 1, 9),))
        self.assertEqual([unit_cost(state, 1, unit) for unit in (1, 2, 3)], [0, 0, 9])

    def test_a_tool_costs_at_the_cycle_that_takes_it(self):
        plant = (costing(ZERO, ((1, EACH, 1),), ((0, EACH, 4, False), (2, (0, (), (0, 1, 0)), 0, True))),)
        state = loaded(plant, ((2, 1, 9),))
        self.assertEqual([unit_cost(state, 1, unit) for unit in (1, 2, 3, 4)], [0, 9, 0, 0])

    def test_weights(self):
        outputs = ((5, (0, (), (2,)), 1), (1, EACH, 3), (4, EACH, 0))
        state = loaded((costing((0, (), (11,)), outputs),), ((0, 1, 0),))
        self.assertEqual([unit_cost(state, *unit) for unit in ((5, 1), (5, 2), (1, 1), (4, 1))], [2, 2, 7, 0])

    def test_weights_that_are_all_0(self):
        state = loaded((costing((0, (), (5,)), ((1, EACH, 0), (2, (0, (), (2,)), 0))),), ((0, 2, 4),))
        self.assertEqual(report(state), (14, ((0, 0), (1, 0), (2, 0)), (14,)))
        self.assertEqual(unit_cost(state, 2, 4), 0)

    def test_cycles_that_produce_nothing_carry(self):
        plant = (costing((0, (), (3,)), ((1, (0, (0, 0), (1, 0)), 2),)),)
        state = loaded(plant, ((0, 4, 8),))
        self.assertEqual((unit_cost(state, 1, 1), report(state)), (15, (20, ((0, 0), (1, 15)), (5,))))
        self.assertEqual(report((plant, state[1], (2,))), (14, ((0, 4), (1, 0)), (10,)))

    def test_a_cycle_that_makes_only_units_of_no_weight_carries(self):
        plant = (costing((0, (), (3,)), ((1, (0, (), (0, 1)), 2), (2, EACH, 0))),)
        state = loaded(plant, ((0, 3, 6),))
        self.assertEqual([unit_cost(state, *unit) for unit in ((2, 1), (1, 1), (2, 2), (2, 3))], [0, 10, 0, 0])
        self.assertEqual(report(state)[2], (5,))

    def test_units_that_wait(self):
        state = (SHOP, ((0, 6, 10), (1, 2, 7)), (2, 0))
        self.assertEqual(report(state), (23, ((0, 4), (1, 4), (2, 15), (3, 0)), (0, 0)))

    def test_lots_of_no_cost_and_equal_lots(self):
        state = (SHOP, ((0, 3, 0), (0, 3, 10), (0, 3, 10)), (0, 0))
        self.assertEqual([unit_cost(state, 0, unit) for unit in range(1, 10)], [0, 0, 0, 3, 3, 4, 3, 3, 4])

    def test_units_that_do_not_exist(self):
        for buffer, unit in ((3, 3), (19, 1), (0, 7), (4, 99)):
            with self.assertRaises(NoSuchUnit) as caught:
                unit_cost(SMALL, buffer, unit)
            self.assertIs(type(caught.exception), NoSuchUnit)
            self.assertEqual((caught.exception.buffer, caught.exception.unit), (buffer, unit))

    def test_a_returned_plant(self):
        changed = disrupted(disrupted(SHOP, (0, 0), ("cost", 0, 11, 4)), (0, 0), ("cost", 1, 2, 3))
        state = loaded(changed, ((0, 12, 5), (0, 12, 5), (1, 6, 2)))
        books = self.agree(state)
        self.assertEqual((books.spent, sum(unit for _, unit in totals(state)[:2])), (12 + 36 + 4 + 6 + 3, 30))


if __name__ == "__main__":
    unittest.main()
