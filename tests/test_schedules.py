"""Points 240 to 244: earliest and latest schedules, plans, critical chains, violations; 6 to 8 for these."""

import unittest

from plantrace.disruptions import disrupted
from plantrace.errors import TooLarge, TooMuch
from plantrace.orders import dates
from plantrace.schedules import critical_chain, earliest, first_violation, is_feasible, latest
from tests.plain import Maker
from tests.plain_schedules import Backwards, Book, Clock, any_arrivals, plain_products, timed
from tests.samples import EACH, SHOP, line, stage

ARRIVALS = ((0, (0, 0, 0, 0, 0, 0)), (1, (1, 1)))
ZERO = (0, (), (0,))


def with_times(plant, duration=EACH, parallelism=1, opening=EACH):
    """The plant with other durations, parallelism and calendar in all of its stages."""
    return tuple(stage[:3] + (duration, parallelism, opening) for stage in plant)


def one(duration=EACH, parallelism=1, opening=EACH, stock=0, used=EACH, made=EACH):
    """A plant with one stage, from buffer 0 to buffer 1."""
    return with_times(line((used, stock, made)), duration, parallelism, opening)


class TooMuchTest(unittest.TestCase):
    def too_much(self, call, *arguments):
        with self.assertRaises(TooMuch) as caught:
            call(*arguments)
        self.assertIs(type(caught.exception), TooMuch)
        self.assertFalse(issubclass(TooMuch, TooLarge))

    def test_24_and_25_cycles(self):
        plant = one(used=(0, (0,), (1,)), made=(0, (0, 0), (1,)))
        self.assertEqual(len(earliest(plant, ((0, (3,) * 23),))[0][0]), 24)
        for call, *more in ((earliest,), (critical_chain, 0, 1)):
            self.too_much(call, plant, ((0, (3,) * 24),), *more)
        self.assertEqual(len(latest(plant, ((1, (90,) * 12),))[1][0]), 14)
        slow = one(made=(0, (), (0, 1)))
        self.assertEqual(len(latest(slow, ((1, (90,) * 12),))[1][0]), 24)
        self.too_much(latest, one(made=(0, (0,), (0, 1))), ((1, (90,) * 12),))

    def test_24_and_25_units(self):
        for used, made, fits in (((0, (), (4,)), (0, (), (4,)), True), (EACH, (0, (), (2,)), False)):
            plant = one(used=used, made=made)
            if fits:
                self.assertEqual(earliest(plant, ((0, (1,) * 24),))[1], ((1, tuple(k // 4 + 2 for k in range(24))),))
            else:
                self.too_much(earliest, plant, ((0, (1,) * 13),))
                self.assertEqual(len(earliest(plant, ((0, (1,) * 12),))[1][0][1]), 24)
        self.too_much(earliest, one(used=(0, (), (4,))), ((0, (1,) * 25),))
        self.assertEqual(latest(one(used=(0, (), (2,))), ((1, (90,) * 12),))[2],
            ((0, tuple(78 + k // 2 for k in range(24))),))
        self.too_much(latest, one(used=(0, (1,), (3, 2))), ((1, (90,) * 12),))
        self.assertEqual(len(latest(one(used=(0, (1,), (3, 2)), stock=4), ((1, (90,) * 11),))[2][0][1]), 22)

    def test_a_requirement_in_the_middle(self):
        plant = line((EACH, 4, (0, (), (4,))), ((0, (), (4,)), 1, EACH))
        self.assertEqual(len(latest(plant, ((2, (90,) * 6),))[1][0]), 6)
        self.too_much(latest, plant, ((2, (90,) * 7),))

    def test_far_too_much(self):
        plant = line((EACH, 0, (0, (), (4,))), (EACH, 0, (0, (), (4,))), (EACH, 0, (0, (), (4,))))
        self.too_much(earliest, plant, ((0, (0,) * 24),))
        plant = line(((0, (), (4,)), 0, EACH), ((0, (), (4,)), 0, EACH), ((0, (), (4,)), 0, EACH),
            ((0, (), (4,)), 0, EACH))
        self.too_much(latest, plant, ((4, (90,) * 12),))


class EarliestTest(unittest.TestCase):
    def test_examples_of_the_document(self):
        self.assertEqual(earliest(SHOP, ARRIVALS), ((((1, 3), (3, 5), (5, 7)), ((3, 5), (7, 9))), ((3, (5, 9)),)))

    def test_cycle_by_cycle(self):
        maker, seen = Maker(240), []
        for _ in range(500):
            plant = timed(maker, maker.plant())
            arrivals = any_arrivals(maker, plant, most=maker.choice((3, 10, 24)))
            clock = Clock(plant, arrivals)
            seen.append(clock.is_too_much())
            if clock.is_too_much():
                with self.assertRaises(TooMuch):
                    earliest(plant, arrivals)
            else:
                self.assertEqual(earliest(plant, arrivals), clock.earliest())
                self.assertIs(is_feasible(plant, arrivals, earliest(plant, arrivals)[0]), True)
        self.assertTrue(50 < sum(seen) < 400)

    def test_no_arrivals(self):
        self.assertEqual(earliest(SHOP, ()), (((), ()), ((3, ()),)))
        self.assertEqual(earliest(SHOP, ((1, (3, 3)), (0, ()))), (((), ()), ((3, ()),)))
        self.assertEqual(earliest(one(stock=2), ()), ((((0, 1), (1, 2)),), ((1, (1, 2)),)))
        self.assertEqual(earliest(one(used=(0, (0, 0), (1,))), ()), ((((0, 1), (1, 2)),), ((1, (1, 2)),)))

    def test_units_that_no_cycle_takes(self):
        self.assertEqual(earliest(one(used=(0, (), (2,))), ((0, (1, 2, 3)),)), ((((2, 3),),), ((1, (3,)),)))

    def test_cycles_of_no_hours(self):
        late = (0, (0, 0, 0, 0), (1, 0))
        self.assertEqual(earliest(one(ZERO, opening=late), ((0, (0, 1, 7)),)),
            ((((0, 0), (1, 1), (7, 7)),), ((1, (0, 1, 7)),)))
        self.assertEqual(earliest(one((0, (), (0, 2)), opening=late), ((0, (0, 1, 1)),))[0],
            (((0, 0), (1, 7), (7, 7)),))

    def test_calendars_that_open_late(self):
        late = (0, (0, 0, 0, 0), (1, 0))
        self.assertEqual(earliest(one((0, (), (2,)), opening=late), ((0, (1, 2)),))[0], (((1, 7), (7, 11)),))

    def test_parallelism(self):
        for parallelism, wanted in ((1, ((0, 3), (3, 6), (6, 9), (9, 12))), (2, ((0, 3), (0, 3), (3, 6), (3, 6))),
                                    (3, ((0, 3), (0, 3), (0, 3), (3, 6)))):
            self.assertEqual(earliest(one((0, (), (3,)), parallelism), ((0, (0,) * 4),))[0], (wanted,))

    def test_a_cycle_does_not_finish_before_the_one_before(self):
        plant = one((0, (), (5, 1)), 2)
        self.assertEqual(earliest(plant, ((0, (0, 0, 0, 3)),)),
            ((((0, 5), (0, 5), (5, 10), (5, 10)),), ((1, (5, 5, 10, 10)),)))

    def test_an_input_that_has_consumed_before_counts_still(self):
        plant = with_times((stage(((0, EACH, 0), (1, (0, (1, 0), (1,)), 0)), ((2, EACH),)),), parallelism=3)
        self.assertEqual(earliest(plant, ((0, (0, 0, 0)), (1, (4, 9))))[0], (((4, 5), (4, 5), (9, 10)),))

    def test_several_products_in_ascending_order(self):
        plant = (stage(((0, EACH, 0),), ((7, EACH), (3, (0, (), (0, 2))))),)
        self.assertEqual(earliest(with_times(plant), ((0, (0, 0)),))[1], ((3, (2, 2)), (7, (1, 2))))


class CriticalChainTest(unittest.TestCase):
    def test_examples_of_the_document(self):
        chain = critical_chain(SHOP, ARRIVALS, 1, 2)
        self.assertEqual(chain[:4], (("work", 1, 2), ("unit", 2, 3), ("work", 0, 3), ("slot", 0, 2)))
        self.assertEqual(chain[4:], (("work", 0, 2), ("slot", 0, 1), ("work", 0, 1), ("arrival", 1, 1)))

    def test_link_by_link(self):
        maker, seen = Maker(242), set()
        for _ in range(400):
            plant = timed(maker, maker.plant())
            arrivals = any_arrivals(maker, plant, most=10)
            clock = Clock(plant, arrivals)
            if clock.is_too_much():
                continue
            for s, rows in enumerate(clock.times):
                for n in range(1, len(rows) + 1):
                    wanted = clock.chain(s, n)
                    self.assertEqual(critical_chain(plant, arrivals, s, n), wanted)
                    seen.update(link[0] for link in wanted)
        self.assertEqual(seen, {"work", "after", "begin", "arrival", "unit", "slot"})

    def test_begin_goes_before_an_arrival_at_0(self):
        self.assertEqual(critical_chain(one(), ((0, (0,)),), 0, 1), (("work", 0, 1), ("begin", 0, 1)))
        self.assertEqual(critical_chain(one(stock=1), (), 0, 1), (("work", 0, 1), ("begin", 0, 1)))

    def test_after(self):
        plant = one((0, (), (5, 1)), 2)
        self.assertEqual(critical_chain(plant, ((0, (1, 2)),), 0, 2),
            (("after", 0, 1), ("work", 0, 1), ("arrival", 0, 1)))

    def test_work_goes_before_after_if_both_finish_then(self):
        plant = one((0, (), (5, 4)), 2)
        self.assertEqual(critical_chain(plant, ((0, (1, 2)),), 0, 2), (("work", 0, 2), ("arrival", 0, 2)))

    def test_a_unit_goes_before_a_slot_and_the_first_input_first(self):
        plant = with_times((stage(((0, EACH, 0), (1, EACH, 0)), ((2, EACH),)),))
        self.assertEqual(critical_chain(plant, ((0, (0, 1)), (1, (0, 1))), 0, 2), (("work", 0, 2), ("arrival", 0, 2)))
        self.assertEqual(critical_chain(plant, ((0, (0, 0)), (1, (0, 1))), 0, 2), (("work", 0, 2), ("arrival", 1, 2)))
        self.assertEqual(critical_chain(plant, ((0, (0, 0)), (1, (0, 0))), 0, 2),
                         (("work", 0, 2), ("slot", 0, 1), ("work", 0, 1), ("begin", 0, 1)))

    def test_the_last_unit_that_was_consumed_may_be_one_of_an_earlier_cycle(self):
        plant = with_times((stage(((0, (0, (1, 0), (1,)), 0), (1, EACH, 0)), ((2, EACH),)),), parallelism=2)
        self.assertEqual(critical_chain(plant, ((0, (4,)), (1, (0, 0, 0))), 0, 2), (("work", 0, 2), ("arrival", 0, 1)))


class FeasibleTest(unittest.TestCase):
    def test_examples_of_the_document(self):
        soon, good = (((1, 3), (2, 7)), ((3, 6),)), (((1, 3), (3, 7)), ((3, 6),))
        late = (((1, 3), (6, 7)), ())
        self.assertEqual((is_feasible(SHOP, ARRIVALS, soon), first_violation(SHOP, ARRIVALS, soon)),
            (False, ("slot", 0, 2)))
        self.assertEqual((is_feasible(SHOP, ARRIVALS, good), first_violation(SHOP, ARRIVALS, good)), (True, None))
        self.assertEqual(first_violation(SHOP, ARRIVALS, late), ("work", 0, 2))

    def agree(self, plant, arrivals, plan):
        found = Book(plant, arrivals, plan).violations()
        self.assertEqual(first_violation(plant, arrivals, plan), found[0] if found else None)
        self.assertIs(is_feasible(plant, arrivals, plan), not found)
        return found[0][0] if found else None

    def moved(self, maker, times):
        """The times with some hours changed, and perhaps with cycles more or fewer."""
        plan = [[list(row) for row in rows] for rows in times]
        for rows in plan:
            if maker.number(0, 3) == 0:
                del rows[maker.number(0, 6):]
            if maker.number(0, 5) == 0:
                rows.append([maker.number(0, 60), maker.number(0, 60)])
        for _ in range(maker.number(0, 3)):
            rows = maker.choice(plan)
            if rows:
                row, at = maker.choice(rows), maker.number(0, 1)
                row[at] = max(0, row[at] + maker.choice((-3, -1, 1, 2, 9)))
        return tuple(tuple(tuple(row) for row in rows) for rows in plan)

    def test_unit_by_unit(self):
        maker, seen = Maker(241), []
        while len(seen) < 1200:
            plant = timed(maker, maker.plant())
            arrivals = any_arrivals(maker, plant, most=12)
            clock = Clock(plant, arrivals)
            if clock.is_too_much() or not any(clock.times):
                continue
            for _ in range(6):
                given = maker.choice((arrivals, arrivals, any_arrivals(maker, plant)))
                seen.append(self.agree(plant, given, self.moved(maker, clock.times)))
        self.assertEqual(set(seen), {None, "unit", "order", "slot", "work"})
        self.assertTrue(all(seen.count(word) > 20 for word in set(seen)))

    def test_an_empty_plan(self):
        self.assertIs(is_feasible(SHOP, (), ((), ())), True)

    def test_units_that_never_arrive(self):
        self.assertEqual(first_violation(one(), (), (((9, 10),),)), ("unit", 0, 1, 0, 1))
        self.assertEqual(first_violation(one(), ((0, (4,)),), (((4, 5), (5, 6)),)), ("unit", 0, 2, 0, 2))

    def test_just_there_and_one_hour_later(self):
        self.assertIsNone(first_violation(one(), ((0, (4,)),), (((4, 5),),)))
        self.assertEqual(first_violation(one(), ((0, (5,)),), (((4, 5),),)), ("unit", 0, 1, 0, 1))
        plant = with_times(line((EACH, 0, EACH), (EACH, 0, EACH)))
        self.assertIsNone(first_violation(plant, ((0, (0,)),), (((0, 3),), ((3, 4),))))
        self.assertEqual(first_violation(plant, ((0, (0,)),), (((0, 4),), ((3, 4),))), ("unit", 1, 1, 0, 1))

    def test_initial_units_are_there(self):
        self.assertIsNone(first_violation(one(stock=1), (), (((0, 1),),)))
        self.assertEqual(first_violation(one(used=(0, (), (2,)), stock=1), (), (((0, 1),),)), ("unit", 0, 1, 0, 2))

    def test_a_producing_cycle_that_the_plan_does_not_have(self):
        plant = with_times(line((EACH, 0, EACH), (EACH, 0, EACH)))
        self.assertEqual(first_violation(plant, ((0, (0, 0)),), (((0, 1),), ((1, 2), (2, 3)))), ("unit", 1, 2, 0, 2))

    def test_the_first_input_and_the_first_position(self):
        plant = with_times((stage(((0, EACH, 0), (1, (0, (), (3,)), 1)), ((2, EACH),)),))
        rows = (((5, 6),),)
        self.assertEqual(first_violation(plant, ((0, (6,)), (1, (9, 9))), rows), ("unit", 0, 1, 0, 1))
        self.assertEqual(first_violation(plant, ((0, (5,)), (1, (9, 9))), rows), ("unit", 0, 1, 1, 2))
        self.assertEqual(first_violation(plant, ((0, (5,)), (1, (5, 9))), rows), ("unit", 0, 1, 1, 3))

    def test_which_of_several_rules_goes_first(self):
        plant, four = one((0, (), (2,))), ((0, (0, 0, 0, 0)),)
        self.assertEqual(first_violation(plant, ((0, (0, 9)),), (((1, 3), (0, 1)),)), ("unit", 0, 2, 0, 2))
        self.assertEqual(first_violation(plant, four, (((1, 3), (0, 1)),)), ("order", 0, 2))
        self.assertEqual(first_violation(plant, four, (((1, 3), (2, 3)),)), ("slot", 0, 2))
        self.assertEqual(first_violation(plant, four, (((1, 3), (3, 4)),)), ("work", 0, 2))
        self.assertEqual(first_violation(plant, four, (((1, 2), (0, 1)),)), ("work", 0, 1))

    def test_order_of_starts_and_of_finishes(self):
        plant = one(ZERO, 3)
        self.assertEqual(first_violation(plant, ((0, (0, 0)),), (((2, 5), (1, 6)),)), ("order", 0, 2))
        self.assertEqual(first_violation(plant, ((0, (0, 0)),), (((2, 5), (2, 4)),)), ("order", 0, 2))
        self.assertIsNone(first_violation(plant, ((0, (0, 0)),), (((2, 5), (2, 5)),)))

    def test_parallelism(self):
        rows = ((0, 3), (0, 3), (2, 5))
        for parallelism, wanted in ((1, ("slot", 0, 2)), (2, ("slot", 0, 3)), (3, None)):
            self.assertEqual(first_violation(one((0, (), (3,)), parallelism), ((0, (0,) * 3),), (rows,)), wanted)

    def test_work(self):
        plant = one((0, (), (2,)), opening=(0, (), (1, 0)))
        given = ((0, (0,)),)
        self.assertEqual([first_violation(plant, given, ((row,),)) for row in ((0, 3), (0, 2), (1, 4), (1, 5), (9, 3))],
                         [None, ("work", 0, 1), ("work", 0, 1), None, ("work", 0, 1)])
        self.assertEqual(first_violation(one(ZERO), given, (((3, 2),),)), ("work", 0, 1))
        self.assertIsNone(first_violation(one(ZERO), given, (((3, 3),),)))

    def test_the_stage_goes_first_and_then_the_cycle(self):
        plant = with_times(line((EACH, 0, EACH), (EACH, 2, EACH)))
        plan = (((0, 1), (1, 1)), ((0, 0), (0, 0)))
        self.assertEqual(first_violation(plant, ((0, (0, 0)),), plan), ("work", 0, 2))
        self.assertEqual(first_violation(plant, ((0, (0, 0)),), (((0, 1), (1, 2)), plan[1])), ("work", 1, 1))

    def test_tools_are_there_when_they_are_taken(self):
        plan = (((1, 3), (3, 5), (5, 7)), ((3, 5), (7, 9)))
        self.assertIs(is_feasible(SHOP, ((0, (0,) * 6), (1, (1, 5))), plan), True)
        self.assertEqual(first_violation(SHOP, ((0, (0,) * 6), (1, (1, 6))), plan), ("unit", 0, 3, 1, 2))


class LatestTest(unittest.TestCase):
    def test_examples_of_the_document(self):
        self.assertEqual(latest(SHOP, ((3, (9, 9)),)), (
            True, (((2, 4), (4, 6), (6, 8)), ((6, 8), (8, 9))), ((0, (2, 2, 4, 4, 6, 6)), (1, (2, 6)))))

    def due(self, maker, plant):
        rows = []
        for product in plain_products(plant):
            if maker.number(0, 4):
                last = maker.choice((20, 40, 100))
                rows.append((product, tuple(sorted(maker.number(0, last) for _ in range(maker.number(1, 12))))))
        maker.random.shuffle(rows)
        return tuple(rows)

    def test_cycle_by_cycle(self):
        maker, seen = Maker(243), []
        while len(seen) < 400:
            plant = timed(maker, maker.plant())
            due = self.due(maker, plant)
            plain = Backwards(plant, due)
            if plain.is_too_much():
                with self.assertRaises(TooMuch):
                    latest(plant, due)
                continue
            wanted = plain.latest()
            self.assertEqual(latest(plant, due), wanted)
            seen.append(wanted[0])
            if wanted[0]:
                self.kept(plant, due, wanted)
        self.assertTrue(80 < sum(seen) < 320)

    def kept(self, plant, due, wanted):
        """Feasible due hours: the latest schedule is a feasible plan, and nothing of it is too late."""
        _, times, arrivals = wanted
        self.assertIs(is_feasible(plant, arrivals, times), True)
        if Clock(plant, arrivals).is_too_much():
            return
        hours = dict(earliest(plant, arrivals)[1])
        for product, wanted_by in due:
            self.assertTrue(all(at <= by for at, by in zip(hours[product], wanted_by)))

    def test_no_due_hours(self):
        self.assertEqual(latest(SHOP, ()), (True, ((), ()), ((0, ()), (1, ()))))

    def test_just_feasible_and_just_not(self):
        self.assertEqual(latest(one((0, (), (3,))), ((1, (3, 6)),)), (True, (((0, 3), (3, 6)),), ((0, (0, 3)),)))
        self.assertEqual(latest(one((0, (), (3,))), ((1, (2, 6)),)), (False, ((None, (3, 6)),), ((0, (None, 3)),)))
        self.assertEqual(latest(one((0, (), (3,))), ((1, (9, 9, 9)),)),
            (True, (((0, 3), (3, 6), (6, 9)),), ((0, (0, 3, 6)),)))
        self.assertEqual(latest(one((0, (), (3,))), ((1, (8, 8, 8)),)),
                         (False, ((None, (2, 5), (5, 8)),), ((0, (None, 2, 5)),)))

    def test_what_has_no_hour_goes_on_to_the_stages_before(self):
        plant = with_times(line((EACH, 0, EACH), (EACH, 0, EACH)))
        self.assertEqual(latest(plant, ((2, (0, 9)),)), (
            False, ((None, (7, 8)), (None, (8, 9))), ((0, (None, 7)),)))
        self.assertEqual(latest(plant, ((2, (1, 9)),)), (
            False, ((None, (7, 8)), ((0, 1), (8, 9))), ((0, (None, 7)),)))

    def test_what_has_no_hour_goes_on_to_earlier_cycles(self):
        plant = (stage(((0, EACH, 0),), ((1, EACH), (2, (0, (0, 1), (1,))))),)
        self.assertEqual(latest(with_times(plant, (0, (), (2,))), ((2, (1,)), (1, (99,)))), (
            False, ((None, None),), ((0, (None, None)),)))

    def test_cycles_of_no_hours(self):
        late = (0, (0, 0, 0, 0), (1, 0))
        self.assertEqual(latest(one(ZERO, opening=late), ((1, (0, 3)),)), (True, (((0, 0), (3, 3)),), ((0, (0, 3)),)))

    def test_a_calendar_that_opens_late(self):
        late = (0, (0, 0, 0, 0), (1, 0))
        self.assertEqual(latest(one(opening=late), ((1, (5, 9)),)), (True, (((4, 5), (8, 9)),), ((0, (4, 8)),)))
        self.assertEqual(latest(one(opening=late), ((1, (4, 9)),)), (False, ((None, (8, 9)),), ((0, (None, 8)),)))

    def test_parallelism(self):
        for parallelism, wanted in ((1, ((0, 3), (3, 6), (6, 9))), (2, ((3, 6), (6, 9), (6, 9))),
                                    (3, ((6, 9), (6, 9), (6, 9)))):
            plant = one((0, (), (3,)), parallelism)
            self.assertEqual(latest(plant, ((1, (9, 9, 9)),)), (True, (wanted,), ((0, tuple(a for a, _ in wanted)),)))

    def test_a_start_is_not_later_than_that_of_the_next_cycle(self):
        plant = one((0, (), (1, 5)), 2)
        self.assertEqual(latest(plant, ((1, (9, 9)),)), (True, (((4, 9), (4, 9)),), ((0, (4, 4)),)))

    def test_initial_units_and_units_that_are_not_required(self):
        plant = with_times(line((EACH, 0, (0, (), (3,))), (EACH, 2, EACH)))
        self.assertEqual(latest(plant, ((2, (5, 6)),)), (True, ((), ((4, 5), (5, 6))), ((0, ()),)))
        self.assertEqual(latest(plant, ((2, (5, 6, 7)),)), (True, (((5, 6),), ((4, 5), (5, 6), (6, 7))), ((0, (5,)),)))

    def test_a_product_without_due_hours(self):
        plant = with_times((stage(((0, EACH, 0),), ((1, EACH), (2, (0, (), (2,))))),))
        self.assertEqual(latest(plant, ((2, (4, 5, 6)),)), (True, (((3, 4), (5, 6)),), ((0, (3, 5)),)))
        self.assertEqual(latest(plant, ((1, (9,)), (2, (4, 5, 6))))[1], (((3, 4), (5, 6)),))


class PassedOnTest(unittest.TestCase):
    def test_hours_that_are_returned(self):
        _, times, arrivals = latest(SHOP, ((3, (89, 99)),))
        self.assertIsNone(first_violation(SHOP, arrivals, times))
        again, hours = earliest(SHOP, arrivals)
        self.assertEqual(hours, ((3, (89, 99)),))
        self.assertIsNone(first_violation(SHOP, arrivals, again))
        self.assertEqual(dates(((3, 2, 99),), (0,), hours), ((1, 2, 99, True),))

    def test_a_returned_plant(self):
        changed = disrupted(SHOP, (0, 0), ("slow", 0, 12, 4))
        changed = disrupted(changed, (0, 0), ("extra", 0, 1, 10, 1))
        arrivals = ((0, (0,) * 24), (1, (1,) * 8))
        clock = Clock(changed, arrivals)
        self.assertEqual(earliest(changed, arrivals), clock.earliest())
        self.assertEqual(len(clock.times[0]), 12)
        self.assertEqual(critical_chain(changed, arrivals, 0, 12), clock.chain(0, 12))


if __name__ == "__main__":
    unittest.main()
