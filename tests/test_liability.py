"""Point 283: damages, liabilities, the costs of recalls, worst scenarios; 6 to 8 for these."""

import time
import unittest

from plantrace.diagnosis import recall
from plantrace.liability import damage, liabilities, recall_cost, worst_scenario
from plantrace.ranges import numbers_of
from plantrace.states import loaded
from tests.plain import Maker, Yard
from tests.plain_costs import Books, share_out
from tests.plain_faults import Known, shop_state
from tests.plain_schedules import timed
from tests.samples import EACH, REST, SHOP
from tests.test_diagnosis import Plain, told
from tests.test_faults import any_scenario

SMALL = loaded(SHOP, ((0, 6, 10), (1, 2, 7)))


def priced_state(maker, yard, fewest, most):
    """A state of a plant with any costs and weights, its history and its costs by reference."""
    (plant, lots, cycles), _ = shop_state(maker, yard, fewest, most)
    state = timed(maker, plant), lots, cycles
    costs = {("unit", buffer, unit): cost for buffer, row in Books(state).units.items() for unit,
        cost in enumerate(row, 1)}
    return state, Known(state), costs


def at_the_end(history, units):
    return [unit for unit in sorted(units) if unit[1] in history.products()]


def plain_damage(history, costs, scenario):
    return sum(costs[unit] for unit in at_the_end(history, history.defective(scenario)))


class DamageTest(unittest.TestCase):
    def test_examples_of_the_document(self):
        self.assertEqual(damage(SMALL, (("tool", 0, 1, 1, 2),)), 18)
        self.assertEqual(liabilities(SMALL, (("lot", 1), ("tool", 0, 1, 1, 1))), (14, 14))

    def test_unit_by_unit(self):
        maker, shared = Maker(283), 0
        yard = Yard(maker)
        for _ in range(200):
            state, history, costs = priced_state(maker, yard, 2, 100)
            for _ in range(4):
                scenario = any_scenario(maker, history)
                wanted = [0] * len(scenario)
                for unit in at_the_end(history, history.defective(scenario)):
                    weights = [int(unit in history.affected(fault)) for fault in scenario]
                    shared += sum(weights) > 1
                    wanted = [a + b for a, b in zip(wanted, share_out(costs[unit], weights))]
                self.assertEqual(liabilities(state, scenario), tuple(wanted))
                self.assertEqual(damage(state, scenario), plain_damage(history, costs, scenario))
                self.assertEqual(damage(state, scenario), sum(wanted))
        self.assertGreater(shared, 100)

    def test_no_faults(self):
        self.assertEqual((damage(SMALL, ()), liabilities(SMALL, ())), (0, ()))

    def test_the_order_of_the_faults_tells_who_gets_the_rest(self):
        plant = ((((0, EACH, 0, False), (1, EACH, 0, True)), ((2, EACH, 1),)) + REST,)
        state = loaded(plant, ((0, 1, 5), (1, 1, 4)))
        self.assertEqual(liabilities(state, (("lot", 0), ("lot", 1))), (4, 5))
        self.assertEqual(liabilities(state, (("lot", 1), ("lot", 0))), (4, 5))
        self.assertEqual(liabilities(state, (("tool", 0, 1, 1, 1), ("lot", 1), ("lot", 0))), (3, 3, 3))

    def test_a_fault_that_affects_no_product(self):
        state = loaded(SHOP, ((0, 6, 10), (1, 2, 7), (0, 1, 100)))
        self.assertEqual((damage(state, (("lot", 2),)), liabilities(state, (("lot", 2), ("lot", 1)))), (0, (0, 28)))

    def test_several_faults_of_one_unit_and_sums_over_units(self):
        scenario = (("tool", 0, 1, 2, 3), ("lot", 0), ("tool", 0, 1, 1, 2))
        self.assertEqual((damage(SMALL, scenario), sum(liabilities(SMALL, scenario))), (28, 28))
        self.assertEqual(liabilities(SMALL, scenario), (6, 16, 6))


class RecallCostTest(unittest.TestCase):
    def test_examples_of_the_document(self):
        broken = (("broken", 0, 1, 2),)
        self.assertEqual((recall_cost(SMALL, broken), worst_scenario(SMALL, broken)),
                         ((28, 18, 28), (("tool", 0, 1, 1, 1),)))

    def first_worst(self, history, costs, seen, most):
        best = None
        for scenario in history.scenarios(most, history.worst_cases(seen)):
            if history.fits(scenario, seen):
                amount = plain_damage(history, costs, scenario)
                if best is None or amount > best[0]:
                    best = amount, scenario
        return None if best is None else best[1]

    def test_every_scenario(self):
        maker, seen_sizes = Maker(2830), set()
        yard = Yard(maker)
        for _ in range(120):
            state, history, costs = priced_state(maker, yard, 3, 20)
            seen = told(maker, history)
            for most in (0, 1, 2):
                plain = Plain(history, seen, most)
                defective = [set(at_the_end(history, history.defective(scenario))) for scenario in plain.found]
                may = set().union(*defective)
                must = set.intersection(*defective) if defective else set()
                greatest = max((plain_damage(history, costs, scenario) for scenario in plain.found), default=None)
                wanted = sum(costs[unit] for unit in may), sum(costs[unit] for unit in must), greatest
                self.assertEqual(recall_cost(state, seen, most=most), wanted)
                worst = self.first_worst(history, costs, seen, most)
                self.assertEqual(worst_scenario(state, seen, most=most), worst)
                seen_sizes.add(None if worst is None else len(worst))
            self.assertEqual(recall_cost(state, seen), recall_cost(state, seen, most=1))
            self.assertEqual(worst_scenario(state, seen), worst_scenario(state, seen, most=1))
        self.assertEqual(seen_sizes, {None, 0, 1, 2})

    def test_no_consistent_scenario(self):
        seen = (("good", 0), ("bad", 0))
        self.assertEqual((recall_cost(SMALL, seen, most=2), worst_scenario(SMALL, seen, most=2)), ((0, 0, None), None))
        self.assertEqual((recall_cost(SMALL, (), most=0), worst_scenario(SMALL, (), most=0)), ((0, 0, 0), ()))

    def test_the_first_scenario_of_equal_damage(self):
        self.assertEqual(worst_scenario(SMALL, ()), (("lot", 0),))
        self.assertEqual(worst_scenario(SMALL, (), most=2), (("lot", 0),))
        self.assertEqual(worst_scenario(SMALL, (("good", 0),), most=2), (("lot", 1),))
        self.assertEqual(worst_scenario(SMALL, (("good", 0), ("good", 1)), most=2), (("tool", 0, 1, 1, 1),))
        nothing = loaded(SHOP, ((0, 1, 10), (1, 2, 7)))
        self.assertEqual(worst_scenario(nothing, (), most=2), ())

    def test_a_state_without_lots_and_cycles(self):
        state = (SHOP, (), (0, 0))
        self.assertEqual((recall_cost(state, ()), worst_scenario(state, ()), damage(state, ())), ((0, 0, 0), (), 0))

    def test_many_possible_faults_take_a_moment(self):
        tool = (0, (), (1, 0, 0))
        feeds = ((0, EACH, 4, False), (1, tool, 2, True), (2, tool, 3, True), (3, tool, 4, True))
        plant = ((feeds[:3], ((5, EACH, 1),)) + REST, (((5, EACH, 0, False), feeds[3]), ((6, EACH, 1),)) + REST)
        state = loaded(plant, ((0, 4, 3), (0, 4, 3), (1, 2, 2), (2, 1, 1)))
        begin = time.process_time()
        for seen in ((), (("defective", 6, 2),), (("broken", 0, 1, 5), ("defective", 6, 9))):
            may, must, worst = recall_cost(state, seen, most=2)
            recalled, certain = recall(state, seen, most=2)
            costs = dict(enumerate(Books(state).units[6], 1))
            self.assertEqual([sum(costs[unit] for unit in numbers_of(rows[0][1])) for rows in (recalled, certain)],
                [may, must])
            self.assertEqual(damage(state, worst_scenario(state, seen, most=2)), worst)
        self.assertLess(time.process_time() - begin, 3)


if __name__ == "__main__":
    unittest.main()
