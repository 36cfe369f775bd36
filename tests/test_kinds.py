"""Points 4 and 7 over the whole program: kinds of what is returned, and what is returned is taken again."""

import unittest

from plantrace.capacity import capacities, cycle_capacities
from plantrace.chains import limiting_chain, requirement_path, slowest_path
from plantrace.completion import completed, is_balanced, runnable
from plantrace.costs import apportioned, report, unit_cost
from plantrace.deliveries import buffer_capacities
from plantrace.diagnosis import explanations, least_scenario, recall, suspects, worst_cases
from plantrace.faults import causes, defective_units, each_scenario, is_consistent, is_defective, is_possible
from plantrace.faults import is_scenario, is_valid
from plantrace.hours import any_open, both_open, complement, finish, greatest_elapsed, latest_start, next_open, put_off
from plantrace.impact import check_convergent, greatest_impact, impact_curves, origin, path, spread
from plantrace.inspections import exposure, inspections
from plantrace.liability import damage, liabilities, recall_cost, worst_scenario
from plantrace.orders import dates, earliest_due_date, expedited, greatest_lateness, order_of, shortfall
from plantrace.ranges import numbers_of
from plantrace.records import record
from plantrace.requirements import alone, bottlenecks, requirements, shortages
from plantrace.schedules import critical_chain, earliest, first_violation, is_feasible, latest
from plantrace.states import is_state, loaded, totals
from plantrace.tracker import Tracker
from plantrace.traces import downstream, upstream
from tests.samples import EACH, SHOP

STATE = loaded(SHOP, ((0, 6, 10), (1, 2, 7)))
SEEN = (("defective", 3, 1), ("intact", 0, 1, 1), ("bad", 0))
EVENTS = (
    ("receive", 0, 6, 10, 0), ("receive", 1, 2, 7, 1), ("order", 3, 1, 9), ("order", 3, 1, 40), ("expedite", 1),
    ("run", 0, 2), ("disrupt", ("slow", 1, 1, 1)), ("run_all",), ("observe", ("defective", 3, 1)), ("order", 0, 1, 1),
)


def is_plain(found):
    """True if these are tuples of integers, strings, True, False and None, and tuples of such."""
    if type(found) is tuple:
        return all(is_plain(part) for part in found)
    return found is None or type(found) in (int, str, bool)


class KindsTest(unittest.TestCase):
    def holds(self, *found):
        for number, row in enumerate(found):
            self.assertTrue(is_plain(row), (number, row))

    def test_of_states_and_scenarios(self):
        scenario = (("lot", 1), ("tool", 0, 1, 1, 2))
        self.holds(
            causes(STATE), *each_scenario(STATE, 2), defective_units(STATE, scenario), worst_cases(STATE, SEEN),
            recall(STATE, SEEN), suspects(STATE, SEEN, most=2), least_scenario(STATE, SEEN),
            explanations(STATE, SEEN, 3, 2), damage(STATE, scenario), liabilities(STATE, scenario),
            recall_cost(STATE, SEEN), worst_scenario(STATE, SEEN), report(STATE), unit_cost(STATE, 2, 1),
            apportioned(7, (1, 2)), record(STATE, 3, 1), totals(STATE), STATE, downstream(STATE, ("lot", 0)),
        )

    def test_of_plants(self):
        given = ((0, (0,) * 6), (1, (1, 1)))
        self.holds(
            path(SHOP, 0), impact_curves(SHOP, 1), greatest_impact(SHOP, 1), spread(SHOP, 1, 1, 2), origin(SHOP, 1, 2),
            inspections(SHOP, 0, 1, EACH, 4), exposure(SHOP, 0, 1, EACH), earliest(SHOP, given),
            critical_chain(SHOP, given, 1, 2), latest(SHOP, ((3, (9, 9)),)), latest(SHOP, ((3, (0, 9)),)),
            first_violation(SHOP, given, (((0, 1),), ())), buffer_capacities(SHOP, ((0, EACH),)),
            completed(SHOP, ((0, 6), (1, 2))), capacities(SHOP), cycle_capacities(SHOP), upstream(SHOP, 3, (1, 2)),
            requirements(SHOP, ((3, 2),)), alone(SHOP, ((0, 6),), 3), limiting_chain(SHOP, ((0, 6),), 3),
        )
        self.assertIsNone(check_convergent(SHOP))

    def test_of_hours_and_orders(self):
        orders, hours = ((3, 2, 9), (3, 1, 4)), ((3, (2, 4)),)
        self.holds(
            finish(EACH, 1, 2), next_open(EACH, 1), latest_start(EACH, 1, 2), greatest_elapsed(EACH, 2),
            both_open(EACH, EACH), any_open(EACH, EACH), complement(EACH), put_off(EACH, 2),
            dates(orders, (1, 0), hours), earliest_due_date(orders), greatest_lateness(orders, (0,), hours),
            shortfall(orders, hours), expedited(orders, (0, 1), 1, ()), order_of(orders, (0, 1), 3, 2),
        )

    def test_of_the_tracker(self):
        tracker = Tracker(SHOP)
        self.holds(*[tracker.apply(event) for event in EVENTS])
        self.holds(
            tracker.rehearse(EVENTS), tracker.recall(), tracker.schedule(), tracker.order_dates(), tracker.losses(),
            tracker.affected_orders(), tuple(tracker.each_record()), tracker.plant, tracker.original, tracker.state,
            tracker.observations, tracker.orders, tracker.sequence, tracker.log, tracker.undo(2), len(tracker),
        )

    def test_true_and_false(self):
        tracker = Tracker.replayed(SHOP, EVENTS)
        on_time = tracker.order_dates()[0][3]
        for answer in (
            is_possible(STATE, ("lot", 0)), is_possible(STATE, ("tool", 0, 1, 1, 1)), is_scenario(STATE, ()),
            is_valid(STATE, ("sound", 3, 1)), is_valid(STATE, ("good", 0)), is_valid(STATE, ("intact", 0, 1, 1)),
            is_defective(STATE, (("lot", 0),), 3, 1), is_consistent(STATE, (("lot", 0),), ("bad", 0)),
            is_feasible(SHOP, (), ((), ())), latest(SHOP, ())[0], suspects(STATE, (("bad", 0),))[0][-1], on_time,
            (3, 1) in tracker, tracker.rehearse((("observe", ("sound", 3, 2)),)) == (False,), is_state(STATE),
        ):
            self.assertIs(answer, True)


class TakenAgainTest(unittest.TestCase):
    """What is returned may be passed wherever a thing of its kind is taken."""

    def test_what_the_tracker_returns(self):
        tracker = Tracker.replayed(SHOP, EVENTS)
        state, orders, sequence = tracker.state, tracker.orders, tracker.sequence
        self.assertEqual(recall(state, tracker.observations), tracker.recall())
        _, hours = tracker.schedule()
        self.assertEqual(dates(orders, sequence, hours), tracker.order_dates())
        self.assertEqual(expedited(orders, sequence, 0, totals(state)), sequence)
        again = Tracker.replayed(tracker.original, tracker.undo(3))
        self.assertEqual((again.orders, again.plant, len(again), len(tracker)), ((), SHOP, 3, 7))
        self.assertEqual(again.rehearse(tracker.log)[:2], (0, 1))
        for event in tracker.log:
            again.apply(event)
        self.assertEqual(again.plant, tracker.plant)

    def test_receipts_and_totals(self):
        needed, _ = requirements(SHOP, ((3, 9),))
        cycles, there, _ = completed(SHOP, needed)
        self.assertEqual((dict(there)[3], runnable(SHOP, needed, cycles)), (9, ()))
        self.assertEqual(shortages(SHOP, needed, ((3, 9),)), ())
        self.assertIs(is_balanced(SHOP, needed, there), True)
        self.assertEqual(expedited(((3, 9, 1), (3, 1, 1)), (0, 1), 1, there), (0, 1))

    def test_schedules_hours_and_starts(self):
        _, times, arrivals = latest(SHOP, ((3, (20, 20)),))
        self.assertIsNone(first_violation(SHOP, arrivals, times))
        again, hours = earliest(SHOP, arrivals)
        self.assertIs(is_feasible(SHOP, arrivals, again), True)
        self.assertEqual(greatest_lateness(((3, 2, 20),), (0,), hours), 0)
        start = finish(EACH, times[1][1][1], 100)
        self.assertEqual((finish(EACH, start, 100), latest_start(EACH, start, 100)), (start + 100, start - 100))

    def test_scenarios_and_ranges(self):
        everything = worst_cases(STATE, ())
        self.assertIs(is_scenario(STATE, everything), True)
        recalled, _ = recall(STATE, (), most=2)
        defective = dict(defective_units(STATE, everything))
        self.assertEqual([numbers_of(pairs) for _, pairs in recalled], [numbers_of(defective[3])])
        for scenario in each_scenario(STATE, 1):
            self.assertEqual(sum(liabilities(STATE, scenario)), damage(STATE, scenario))
        for fault in least_scenario(STATE, SEEN):
            self.assertIs(is_possible(STATE, fault), True)

    def test_chains_and_paths(self):
        self.assertEqual(len(slowest_path(SHOP, 3, 0)[1]), len(requirement_path(SHOP, ((3, 2),), 0)))
        self.assertEqual(bottlenecks(SHOP, requirements(SHOP, ((3, 2),))[0], 3), (0, 1))


if __name__ == "__main__":
    unittest.main()
