"""Points 320 to 322 and the example of point 3: the tracker, its events, its log; 4 to 8 where they touch these."""

import time
import unittest

from plantrace.disruptions import disrupted
from plantrace.errors import BadPlant, NothingToUndo, PlantError, TooLarge, TooMuch
from plantrace.diagnosis import recall, suspects
from plantrace.records import record
from plantrace.states import is_state
from plantrace.tracker import Tracker
from tests.plain import Maker, longer
from tests.plain_faults import tooled
from tests.plain_schedules import timed
from tests.plain_tracker import Ledger, any_event
from tests.samples import BOXES, BRACKETS, EACH, REST, SHOP, STAGE, line, stage
from tests.test_diagnosis import Plain
from tests.test_orders import Filled

CLEAN = ((SHOP, (), (0, 0)), (), (), ())


def inside(tracker):
    """All that a tracker tells of itself."""
    return tracker.plant, tracker.original, tracker.state, tracker.observations, tracker.orders, tracker.sequence


def answers(tracker):
    """All that a tracker works out."""
    return (
        tracker.recall(), tracker.recall(most=2), tracker.schedule(), tracker.order_dates(), tracker.affected_orders(),
        tracker.affected_orders(most=0), tuple(tracker.each_record()), tracker.log, len(tracker), list(tracker),
    )


def everything(tracker):
    return inside(tracker) + answers(tracker)


def shop(*events):
    """A tracker of the plant of the examples to which the events have been applied."""
    return Tracker.replayed(SHOP, events)


LOADED = (("receive", 0, 6, 10, 0), ("receive", 1, 2, 7, 1))


class ExamplesTest(unittest.TestCase):
    def test_the_example_of_point_3(self):
        tracker = Tracker((BRACKETS, BOXES))
        told = tuple(tracker.apply(event) for event in LOADED + (("run_all",),))
        self.assertEqual(told, (0, 1, (3, 2)))
        self.assertIs(tracker.apply(("observe", ("defective", 3, 1))), True)
        self.assertEqual(record(tracker.state, 3, 2), (1, 2, None, (("unit", 2, 2), ("unit", 2, 3))))
        self.assertEqual(suspects(tracker.state, tracker.observations, most=1), (
            ("lot", 0, False), ("lot", 1, False), ("tool", 0, 1, 1, 1, 1, False)))
        self.assertEqual(tracker.recall(most=1), (((3, ((1, 2),)),), ((3, ((1, 2),)),)))

    def test_examples_of_the_interface(self):
        tracker = Tracker((BRACKETS, BOXES))
        told = (tracker.apply(("receive", 0, 4, 10, 0)), tracker.apply(("receive", 1, 2, 7, 1)),
            tracker.apply(("order", 3, 2, 6)))
        self.assertEqual(told, (0, 1, 0))
        self.assertEqual(tracker.rehearse((("run", 0, 1), ("expedite", 0), ("run_all",))), (1, 0, (1, 1)))
        self.assertEqual((tracker.apply(("run", 0, 5)), tracker.apply(("run_all",))), (2, (0, 1)))
        self.assertEqual(tracker.schedule(), ((((1, 3), (3, 5)), ((3, 5),)), ((3, (5,)),)))
        self.assertEqual((tracker.order_dates(), tracker.state[2], (3, 1) in tracker, (3, 2) in tracker),
                         (((1, 2, None, False),), (2, 1), True, False))
        told = (tracker.apply(("disrupt", ("yield", 0, 0, 3, 1))), tracker.apply(("receive", 0, 2, 5, 0)),
            tracker.apply(("run_all",)))
        self.assertEqual(told, (True, 2, (1, 0)))
        self.assertEqual((tracker.losses(), tracker.undo(many=2), len(tracker)),
                         (((3, 1),), (("receive", 0, 2, 5, 0), ("run_all",)), 6))
        self.assertEqual(tuple(tracker.each_record())[2], (3, 1, 1, 1, (("initial", 1, 0, 1), ("unit", 2, 1))))
        with self.assertRaises(NothingToUndo):
            tracker.undo(many=7)


class AcceptedEventsTest(unittest.TestCase):
    """Against the list of the accepted events, from which everything is worked out anew."""

    def agree(self, tracker, ledger):
        state = ledger.state()
        self.assertEqual(inside(tracker), (
            state[0], ledger.original, state, ledger.observations(), ledger.orders(), ledger.sequence()))
        self.assertEqual((tracker.log, len(tracker), tuple(tracker)),
            (tuple(ledger.log), len(ledger.log), tuple(ledger.log)))
        self.assertIs(is_state(tracker.state), True)

    def answers_agree(self, tracker, ledger, most):
        clock, history = ledger.clock(), ledger.history()
        self.assertEqual(tracker.schedule(), clock.earliest())
        filled = Filled(ledger.orders(), ledger.sequence(), clock.earliest()[1])
        self.assertEqual(tracker.order_dates(), filled.rows())
        self.assertEqual(tuple(tracker.each_record()), tuple(sorted(history.rows)))
        plain = Plain(history, ledger.observations(), most).recall()
        self.assertEqual(tracker.recall(most=most), plain)
        recalled = {(product, unit) for product, pairs in plain[0] for first,
            last in pairs for unit in range(first, last + 1)}
        wanted = {order for order in ledger.sequence() for unit in filled.units[order]
                  if (ledger.orders()[order][0], unit) in recalled}
        self.assertEqual(tracker.affected_orders(most=most), tuple(sorted(wanted)))
        if most == 1:
            self.assertEqual((tracker.recall(), tracker.affected_orders()), (plain, tuple(sorted(wanted))))
        for buffer in range(20):
            for unit in (1, history.totals.get(buffer, 0), history.totals.get(buffer, 0) + 1, 99):
                self.assertIs((buffer, unit) in tracker, 1 <= unit <= history.totals.get(buffer, 0) or unit == 0)

    def plant(self, maker):
        while True:
            plant = timed(maker, tooled(maker))
            try:
                Tracker(plant)
            except TooMuch:
                continue
            return plant

    def test_any_events(self):
        maker, seen, affected = Maker(321), set(), 0
        for _ in range(45):
            plant = self.plant(maker)
            tracker, ledger = Tracker(plant), Ledger(plant)
            for k in range(30):
                event = any_event(maker, ledger, k)
                told = ledger.apply(event)
                self.assertEqual(tracker.rehearse((event,)), (told,))
                self.assertEqual(tracker.apply(event), told)
                self.assertIs(type(tracker.rehearse(())), tuple)
                seen.add((event[0], told in (None, False) if event[0] not in ("run", "run_all") else False))
                self.agree(tracker, ledger)
            if len(ledger.history().faults()) <= 40:
                self.answers_agree(tracker, ledger, maker.number(0, 2))
                affected += bool(tracker.affected_orders())
            again = Tracker.replayed(plant, tracker.log)
            self.assertEqual(inside(again), inside(tracker))
        self.assertEqual(len(seen), 12)
        self.assertGreater(affected, 5)

    def test_undoing_any_events(self):
        maker = Maker(322)
        for _ in range(25):
            plant = self.plant(maker)
            tracker, ledger = Tracker(plant), Ledger(plant)
            for k in range(25):
                event = any_event(maker, ledger, k)
                self.assertEqual(tracker.apply(event), ledger.apply(event))
                if maker.number(0, 3) == 0:
                    many = maker.number(0, len(tracker))
                    kept = len(tracker) - many
                    log = tracker.log
                    self.assertEqual(tracker.undo(many), log[kept:])
                    ledger = Ledger(plant)
                    for other in log[:kept]:
                        ledger.apply(other)
                    self.agree(tracker, ledger)
                    again = Tracker.replayed(plant, tracker.log)
                    self.assertEqual(everything(again), everything(tracker))

    def test_rehearsing_any_events(self):
        maker = Maker(3210)
        for _ in range(25):
            plant = self.plant(maker)
            tracker, ledger, other = Tracker(plant), Ledger(plant), Ledger(plant)
            for k in range(8):
                event = any_event(maker, ledger, k)
                ledger.apply(event)
                other.apply(event)
                tracker.apply(event)
            before = everything(tracker)
            events, told = [], []
            for k in range(12):
                events.append(any_event(maker, other, 8 + k))
                told.append(other.apply(events[-1]))
            self.assertEqual(tracker.rehearse(tuple(events)), tuple(told))
            self.assertEqual(everything(tracker), before)


class MadeTest(unittest.TestCase):
    def test_a_new_tracker(self):
        tracker = Tracker(SHOP)
        self.assertEqual(inside(tracker), (SHOP, SHOP) + CLEAN)
        self.assertEqual(answers(tracker), (
            (((3, ()),), ((3, ()),)), (((3, ()),), ((3, ()),)), (((), ()), ((3, ()),)), (), (), (), (), (), 0, []))
        self.assertEqual((tracker.losses(), tracker.rehearse(()), tracker.undo(0)), (((3, 0),), (), ()))

    def test_kinds_of_what_is_told(self):
        tracker = shop(*LOADED, ("run_all",), ("order", 3, 1, 0))
        for found in everything(tracker)[:-1]:
            self.assertIsInstance(found, (tuple, int))
        self.assertIs((0, 1) in tracker, True)
        self.assertIs((19, 1) in tracker, False)
        self.assertIs(tracker.apply(("disrupt", ("slow", 0, 9, 1))), True)
        self.assertIs(tracker.apply(("disrupt", ("slow", 0, 1, 1))), False)

    def not_right(self, plant, buffer):
        for call in (lambda: Tracker(plant), lambda: Tracker.replayed(plant, LOADED)):
            with self.assertRaises(BadPlant) as caught:
                call()
            self.assertIs(type(caught.exception), BadPlant)
            self.assertEqual(caught.exception.buffer, buffer)

    def test_plants_that_are_not_right(self):
        self.not_right((BOXES, BRACKETS), 2)
        self.not_right((BRACKETS, BRACKETS), 0)
        self.not_right((BRACKETS, BOXES, BOXES), 2)
        self.not_right(line((EACH, 0, EACH), (EACH, 0, EACH))[::-1], 1)
        self.not_right((stage(((4, EACH, 0),), ((4, EACH),)),), 4)
        self.not_right((stage(((5, EACH, 0), (5, EACH, 0)), ((3, EACH), (3, EACH))),), 3)

    def too_much(self, plant):
        for call in (lambda: Tracker(plant), lambda: Tracker.replayed(plant, ())):
            with self.assertRaises(TooMuch) as caught:
                call()
            self.assertIs(type(caught.exception), TooMuch)

    def test_too_much_before_anything_is_received(self):
        used = {many: (0, (0,) * many, (1,)) for many in (20, 21)}
        self.assertEqual(Tracker(line((used[20], 4, EACH))).apply(("run_all",)), (24,))
        self.too_much(line((used[21], 4, EACH)))
        self.assertEqual(Tracker(line((EACH, 4, (0, (), (6,))))).apply(("run", 0, 24)), 4)
        self.too_much(line((EACH, 4, (0, (1,), (8,)))))
        self.too_much(line((EACH, 4, (0, (), (4,))), (EACH, 0, (0, (), (4,)))))

    def test_a_bad_plant_before_too_much(self):
        self.not_right(line((EACH, 4, (0, (1,), (8,))), (EACH, 4, EACH))[::-1], 1)

    def test_errors_are_plant_errors(self):
        for error in (BadPlant, TooMuch, NothingToUndo, TooLarge):
            self.assertTrue(issubclass(error, PlantError) and issubclass(error, ValueError))


class ReceiveTest(unittest.TestCase):
    def test_materials_alone(self):
        tracker = Tracker(SHOP)
        self.assertEqual([tracker.apply(("receive", buffer, 1, 1, 0)) for buffer in (2, 3, 4, 19, 1, 0)],
            [None] * 4 + [0, 1])
        self.assertEqual(tracker.state, (SHOP, ((1, 1, 1), (0, 1, 1)), (0, 0)))

    def test_hours_of_one_material_and_of_another(self):
        tracker = shop(("receive", 0, 2, 1, 5))
        told = [tracker.apply(("receive", material, 1, 1, hour)) for material,
            hour in ((0, 4), (1, 4), (0, 5), (1, 3), (0, 6))]
        self.assertEqual(told, [None, 1, 2, None, 3])

    def test_at_most_4_lots(self):
        tracker = Tracker(SHOP)
        self.assertEqual([tracker.apply(("receive", 0, 1, 1, 0)) for _ in range(6)], [0, 1, 2, 3, None, None])
        tracker.undo(3)
        self.assertEqual([tracker.apply(("receive", 0, 1, 1, 0)) for _ in range(2)], [3, None])

    def test_24_and_25_units(self):
        tracker = shop(("receive", 0, 12, 1, 0))
        self.assertEqual(tracker.rehearse((("receive", 0, 12, 1, 0), ("receive", 0, 1, 1, 0),
            ("receive", 1, 1, 1, 0))), (1, None, 2))

    def test_24_and_25_cycles_and_produced_units(self):
        tracker = Tracker(line((EACH, 1, (0, (), (2,)))))
        self.assertEqual(tracker.rehearse((("receive", 0, 12, 1, 0),)), (None,))
        self.assertEqual(tracker.rehearse((("receive", 0, 11, 1, 0), ("run_all",))), (0, (12,)))
        tracker = Tracker(line(((0, (0,) * 14, (1,)), 0, (0, (), (0, 0, 1)))))
        self.assertEqual(tracker.rehearse((("receive", 0, 10, 1, 0), ("receive", 0, 1, 1, 0))), (0, None))
        self.assertEqual(tracker.rehearse((("receive", 0, 11, 1, 0), ("receive", 0, 10, 1, 0))), (None, 0))

    def test_what_has_run_does_not_matter(self):
        tracker = Tracker(line((EACH, 0, (0, (), (2,)))))
        tracker.apply(("receive", 0, 12, 1, 0))
        self.assertEqual(tracker.rehearse((("receive", 0, 1, 1, 0), ("run", 0, 3), ("receive", 0, 1, 1, 0))),
            (None, 3, None))

    def test_the_current_plant_counts(self):
        tracker = Tracker.replayed(line((EACH, 0, (0, (), (2,)))), (("receive", 0, 12, 1, 0),))
        self.assertEqual(tracker.rehearse((("disrupt", ("yield", 0, 0, 5, 2)), ("receive", 0, 1, 1, 0),
            ("receive", 0, 1, 1, 0))),
                         (True, 1, None))


class RunTest(unittest.TestCase):
    def test_stops_as_soon_as_it_is_not_runnable(self):
        tracker = shop(*LOADED)
        self.assertEqual(tracker.rehearse((("run", 1, 9), ("run", 0, 2), ("run", 0, 24), ("run", 0, 1), ("run", 1, 1),
            ("run", 1, 5))),
                         (0, 2, 1, 0, 1, 1))

    def test_a_stage_that_is_not_there(self):
        tracker = shop(*LOADED)
        self.assertEqual(tracker.rehearse((("run", 2, 1), ("run", 9, 24))), (0, 0))

    def test_run_all_goes_from_the_first_stage_to_the_last_one(self):
        tracker = shop(*LOADED, ("run", 0, 1))
        self.assertEqual((tracker.apply(("run_all",)), tracker.apply(("run_all",))), ((2, 2), (0, 0)))
        self.assertEqual(tracker.state[2], (3, 2))

    def test_before_anything_is_received(self):
        self.assertEqual(Tracker(SHOP).apply(("run_all",)), (0, 0))
        self.assertEqual(Tracker(line((EACH, 2, EACH))).apply(("run", 0, 1)), 1)


class DisruptTest(unittest.TestCase):
    def test_applicable_or_not(self):
        tracker = shop(*LOADED, ("run", 0, 2))
        for disruption, wanted in (
            (("yield", 0, 0, 3, 1), True), (("yield", 0, 0, 2, 1), False), (("yield", 0, 0, 3, 2), False),
            (("yield", 0, 1, 3, 1), False), (("extra", 0, 2, 3, 1), False), (("extra", 0, 1, 3, 1), False),
            (("extra", 0, 1, 4, 1), True), (("extra", 0, 1, 4, 2), False), (("slow", 2, 1, 1), False),
            (("slow", 1, 1, 4), True), (("cost", 0, 3, 1), True), (("cost", 0, 1, 1), False),
        ):
            self.assertEqual(tracker.rehearse((("disrupt", disruption),)), (wanted,), disruption)
            changed = disrupted(SHOP, (2, 0), disruption)
            self.assertIs(tracker.apply(("disrupt", disruption)), wanted)
            self.assertEqual(tracker.plant, changed if wanted else SHOP)
            self.assertEqual((tracker.original, tracker.state[0]), (SHOP, tracker.plant))
            tracker.undo()

    def test_of_the_current_plant(self):
        tracker = Tracker(SHOP)
        self.assertEqual(tracker.rehearse((("disrupt", ("yield", 0, 0, 3, 1)),) * 2), (True, False))

    def test_at_most_4(self):
        tracker = Tracker(SHOP)
        told = [tracker.apply(("disrupt", ("slow", 0, cycle, 1))) for cycle in (1, 1, 2, 3, 4)]
        self.assertEqual(told, [True] * 4 + [False])
        tracker.undo(2)
        self.assertEqual([tracker.apply(("disrupt", ("cost", 0, 1, 1))) for _ in range(2)], [True, False])

    def test_those_that_are_not_accepted_do_not_count(self):
        tracker = Tracker(SHOP)
        told = [tracker.apply(("disrupt", ("slow", 4, 1, 1))) for _ in range(5)]
        self.assertEqual(told + [tracker.apply(("disrupt", ("slow", 0, 1, 1)))], [False] * 5 + [True])

    def test_losses(self):
        tracker = shop(("disrupt", ("yield", 0, 0, 1, 1)), ("disrupt", ("slow", 1, 1, 1)))
        self.assertEqual(tracker.losses(), ((3, 1),))
        plant = (stage(((0, EACH, 0),), ((7, EACH), (3, (0, (), (2,))))),)
        tracker = Tracker.replayed(plant, (("disrupt", ("yield", 0, 1, 2, 2)),))
        self.assertEqual(tracker.losses(), ((3, 2), (7, 0)))
        tracker.apply(("disrupt", ("extra", 0, 0, 4, 3)))
        self.assertEqual(tracker.losses(), ((3, 8), (7, 3)))

    def test_losses_of_plants_with_large_curves(self):
        tracker = Tracker(line((EACH, 0, (0, (), (0,) * 60 + (1,)))))
        for _ in range(2):
            with self.assertRaises(TooLarge) as caught:
                tracker.losses()
            self.assertIs(type(caught.exception), TooLarge)
            tracker.apply(("disrupt", ("slow", 0, 1, 1)))


class OrderTest(unittest.TestCase):
    def test_products_alone(self):
        tracker = Tracker(SHOP)
        self.assertEqual([tracker.apply(("order", product, 2, 5)) for product in (0, 2, 19, 3)], [None, None, None, 0])
        self.assertEqual((tracker.orders, tracker.sequence), (((3, 2, 5),), (0,)))

    def test_at_most_6(self):
        tracker = Tracker(SHOP)
        self.assertEqual([tracker.apply(("order", 3, 1, 0)) for _ in range(8)], [0, 1, 2, 3, 4, 5, None, None])
        self.assertEqual(tracker.sequence, (0, 1, 2, 3, 4, 5))

    def test_at_the_end_of_the_sequence(self):
        tracker = shop(("order", 3, 1, 0), ("order", 3, 1, 0), ("expedite", 1), ("order", 3, 1, 0))
        self.assertEqual(tracker.sequence, (1, 0, 2))

    def test_expediting(self):
        plant = (stage(((0, EACH, 0),), ((1, EACH), (2, EACH))),)
        tracker = Tracker.replayed(plant, (
            ("order", 2, 1, 0), ("order", 1, 2, 0), ("order", 1, 1, 0), ("order", 2, 2, 0), ("receive", 0, 9, 1, 0)))
        self.assertEqual([tracker.rehearse((("expedite", order),)) for order in (0, 1, 2, 3, 4, 9)],
                         [(0,), (1,), (1,), (0,), (None,), (None,)])
        tracker.apply(("run", 0, 1))
        self.assertEqual([tracker.rehearse((("expedite", order),)) for order in (0, 1, 2, 3)],
            [(None,), (None,), (2,), (3,)])
        self.assertEqual((tracker.apply(("expedite", 3)), tracker.sequence), (3, (0, 1, 2, 3)))

    def test_what_is_not_accepted_changes_nothing(self):
        tracker = shop(*LOADED, ("order", 3, 1, 0), ("order", 3, 1, 0), ("run_all",))
        before = inside(tracker)
        for event in (("expedite", 0), ("expedite", 2), ("order", 2, 1, 0), ("receive", 1, 12, 1, 0),
            ("receive", 5, 1, 1, 0),
                      ("disrupt", ("slow", 0, 3, 1)), ("observe", ("sound", 3, 3)), ("run", 0, 5), ("run", 7, 5)):
            self.assertIn(tracker.apply(event), (None, False, 0))
            self.assertEqual((inside(tracker), tracker.log[-1]), (before, event))
        self.assertEqual(len(tracker), 14)

    def test_dates_and_affected_orders(self):
        tracker = shop(*LOADED, ("order", 3, 1, 5), ("order", 3, 2, 9), ("run", 0, 2), ("run_all",))
        self.assertEqual(tracker.order_dates(), ((1, 1, 5, True), (2, 3, None, False)))
        self.assertEqual(tracker.affected_orders(), (0, 1))
        tracker.apply(("observe", ("sound", 3, 1)))
        self.assertEqual((tracker.affected_orders(), tracker.affected_orders(most=0)), ((1,), ()))
        tracker.apply(("observe", ("sound", 3, 2)))
        self.assertEqual(tracker.affected_orders(most=2), ())

    def test_units_that_no_order_gets(self):
        tracker = shop(*LOADED, ("run_all",), ("order", 3, 1, 5), ("observe", ("broken", 0, 1, 3)))
        self.assertEqual((tracker.recall()[0], tracker.affected_orders()), (((3, ((2, 2),)),), ()))


class ObserveTest(unittest.TestCase):
    def test_valid_or_not(self):
        tracker = shop(*LOADED, ("run", 0, 3))
        for observation, wanted in (
            (("sound", 2, 3), True), (("sound", 2, 4), False), (("defective", 3, 1), False), (("intact", 0, 1, 3),
                True),
            (("intact", 0, 1, 4), False), (("broken", 0, 0, 1), False), (("broken", 1, 0, 1), False), (("good", 1),
                True),
            (("bad", 2), False), (("broken", 4, 0, 1), False), (("sound", 19, 1), False),
        ):
            self.assertEqual(tracker.rehearse((("observe", observation),)), (wanted,), observation)

    def test_at_most_4_and_repeated_ones_count(self):
        tracker = shop(*LOADED, ("run_all",))
        self.assertEqual([tracker.apply(("observe", ("sound", 3, 1))) for _ in range(5)], [True] * 4 + [False])
        self.assertEqual(tracker.observations, (("sound", 3, 1),) * 4)
        tracker.undo(2)
        self.assertEqual(tracker.rehearse((("observe", ("sound", 3, 2)),) * 2), (True, False))

    def test_contradictions(self):
        tracker = shop(*LOADED, ("run_all",), ("observe", ("sound", 3, 1)))
        told = [tracker.apply(("observe", what)) for what in (
            ("defective", 3, 1), ("bad", 0), ("broken", 0, 1, 1), ("broken", 0, 1, 2), ("intact", 0, 1,
                2), ("defective", 3, 2))]
        self.assertEqual(told, [False, False, False, True, False, True])
        self.assertEqual(tracker.observations, (("sound", 3, 1), ("broken", 0, 1, 2), ("defective", 3, 2)))

    def test_more_faults_than_a_recall_asks_for(self):
        tracker = shop(*LOADED, ("run_all",))
        told = [tracker.apply(("observe", what)) for what in (("bad", 0), ("bad", 1), ("broken", 0, 1, 1),
            ("broken", 0, 1, 3))]
        self.assertEqual(told, [True] * 4)
        self.assertEqual(tracker.recall(most=2), (((3, ()),), ((3, ()),)))

    def test_what_was_observed_stays_when_more_is_run(self):
        tracker = shop(*LOADED, ("run", 0, 1), ("observe", ("intact", 0, 1, 1)), ("observe", ("defective", 2, 1)),
            ("run_all",))
        self.assertEqual(tracker.observations, (("intact", 0, 1, 1), ("defective", 2, 1)))
        self.assertEqual(tracker.recall(), recall(tracker.state, tracker.observations))


class LogTest(unittest.TestCase):
    EVENTS = LOADED + (("run", 0, 2), ("observe", ("defective", 2, 1)), ("order", 3, 1, 9), ("order", 0, 1, 9),
                       ("order", 3, 2, 4), ("expedite", 1), ("disrupt", ("slow", 0, 3, 2)), ("run_all",), ("run", 5, 1))

    def test_undoing_none_some_and_all(self):
        for many in range(len(self.EVENTS) + 1):
            tracker = shop(*self.EVENTS)
            kept = len(self.EVENTS) - many
            self.assertEqual(tracker.undo(many), self.EVENTS[kept:])
            self.assertEqual(everything(tracker), everything(shop(*self.EVENTS[:kept])))
        self.assertEqual(inside(tracker), (SHOP, SHOP) + CLEAN)

    def test_one_event_unless_told(self):
        tracker = shop(*self.EVENTS)
        self.assertEqual((tracker.undo(), tracker.undo(many=1), len(tracker)),
            (self.EVENTS[-1:], self.EVENTS[-2:-1], 9))

    def test_one_too_many(self):
        tracker = shop(*self.EVENTS)
        before = everything(tracker)
        for many in (len(self.EVENTS) + 1, 60):
            with self.assertRaises(NothingToUndo) as caught:
                tracker.undo(many)
            self.assertIs(type(caught.exception), NothingToUndo)
            self.assertEqual(everything(tracker), before)
        with self.assertRaises(NothingToUndo):
            Tracker(SHOP).undo()

    def test_it_goes_on_as_if_the_events_had_not_been(self):
        tracker = shop(*self.EVENTS)
        tracker.undo(6)
        for event in self.EVENTS[::-1]:
            tracker.apply(event)
        self.assertEqual(everything(tracker), everything(shop(*self.EVENTS[:5] + self.EVENTS[::-1])))

    def test_replaying_a_log_for_another_plant(self):
        tracker = Tracker.replayed((STAGE,), self.EVENTS)
        self.assertEqual((tracker.log, tracker.state[2], tracker.orders), (self.EVENTS, (2,), ()))

    def test_two_trackers_side_by_side(self):
        one, two = Tracker(SHOP), Tracker(SHOP)
        for event in self.EVENTS:
            one.apply(event)
            self.assertEqual((inside(two), len(two)), ((SHOP, SHOP) + CLEAN, 0))
        two.apply(("receive", 1, 1, 1, 1))
        self.assertEqual(everything(one), everything(shop(*self.EVENTS)))
        log = one.log
        one.undo(3)
        self.assertEqual((log, len(two)), (self.EVENTS, 1))

    def test_len_iteration_and_in(self):
        tracker = shop(*self.EVENTS)
        self.assertEqual((len(tracker), list(tracker), [event for event in tracker]),
            (11, list(self.EVENTS), list(self.EVENTS)))
        one, two = iter(tracker), iter(tracker)
        self.assertEqual((next(one), next(one), next(two)), self.EVENTS[:2] + self.EVENTS[:1])
        self.assertEqual([(buffer, unit) in tracker for buffer,
            unit in ((0, 6), (0, 7), (1, 2), (2, 3), (2, 4), (3, 1), (3, 2), (3, 3), (4, 1), (19, 99))],
                         [True, False, True, True, False, True, True, False, False, False])

    def test_properties_cannot_be_set(self):
        tracker = shop(*self.EVENTS)
        for name in ("plant", "original", "state", "observations", "orders", "sequence", "log"):
            with self.assertRaises(AttributeError):
                setattr(tracker, name, ())

    def test_records_one_by_one(self):
        tracker = shop(*self.EVENTS)
        wanted = list(tracker.each_record())
        self.assertEqual([row[:2] for row in wanted], [(2, 1), (2, 2), (2, 3), (3, 1), (3, 2)])
        self.assertEqual(wanted[1], (2, 2, 0, 2, (("unit", 0, 3), ("unit", 0, 4), ("unit", 1, 1))))
        one, two = tracker.each_record(), tracker.each_record()
        self.assertEqual([next(one), next(one), next(two)], [wanted[0], wanted[1], wanted[0]])
        self.assertEqual(list(zip(one, two)), list(zip(wanted[2:], wanted[1:])))
        left = tracker.each_record()
        next(left)
        del left
        tracker.apply(("receive", 0, 2, 1, 1))
        self.assertEqual(list(tracker.each_record()), wanted)

    def test_logs_of_60_events_take_a_moment(self):
        begin = time.process_time()
        tracker = Tracker(SHOP)
        for k in range(15):
            for event in (("receive", 0, 2, 5, k), ("receive", 1, 1, 5, k), ("run", 0, 1),
                ("observe", ("intact", 0, 1, 1))):
                tracker.apply(event)
        self.assertEqual((len(tracker), everything(Tracker.replayed(SHOP, tracker.log))), (60, everything(tracker)))
        self.assertEqual(tracker.rehearse((("run_all",),) * 12)[1:], ((0, 0),) * 11)
        self.assertEqual((len(tracker.undo(60)), len(tracker)), (60, 0))
        self.assertLess(time.process_time() - begin, 3)


class PassedOnTest(unittest.TestCase):
    def test_plants_and_logs_of_another_tracker(self):
        tracker = shop(*LogTest.EVENTS)
        again = Tracker(tracker.plant)
        self.assertEqual((again.original, again.plant), (tracker.plant, tracker.plant))
        self.assertEqual(Tracker.replayed(tracker.original, tracker.log).state, tracker.state)
        self.assertEqual(again.rehearse(tracker.log), Tracker(tracker.plant).rehearse(tracker.log))

    def test_curves_stay_as_they_were_passed(self):
        plant = (((0, longer(EACH, 2, 3), 0, False),), ((1, longer((0, (), (2, 1)), 2, 1), 1),)) + REST
        tracker = Tracker.replayed((plant,), (("disrupt", ("slow", 0, 2, 1)),))
        self.assertEqual(tracker.original, (plant,))
        self.assertEqual(tracker.plant, (plant[:3] + ((0, (1, 2), (1,)),) + plant[4:],))


if __name__ == "__main__":
    unittest.main()
