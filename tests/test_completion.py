"""Points 65 to 67: runnable stages, completion, balanced totals; 7 and 8 where they touch these."""

import unittest

from plantrace.completion import completed, is_balanced, runnable
from plantrace.errors import TooMuch
from plantrace.inverses import lower_inverse, upper_inverse
from plantrace.plants import buffers, materials
from plantrace.stages import supports
from tests.plain import Floor, Maker, upper, values
from tests.samples import REST, STAGE, line

LONG = lower_inverse((0, (), (20, 19, 18, 17)))


class CompletedTest(unittest.TestCase):
    def agree(self, plant, receipts, maker=None):
        floor = Floor(plant)
        floor.complete(receipts, maker)
        if floor.is_too_much():
            with self.assertRaises(TooMuch):
                completed(plant, receipts)
        else:
            self.assertEqual(completed(plant, receipts), floor.outcome(), (plant, receipts))
        return floor

    def test_example_of_the_document(self):
        self.assertEqual(completed((STAGE,), ((0, 4), (1, 5))), ((4,), ((0, 4), (1, 5), (2, 4)), ((0, 0),)))

    def test_unit_by_unit(self):
        maker = Maker(66)
        for _ in range(250):
            plant = maker.plant()
            self.agree(plant, maker.receipts(plant, 40))

    def test_many_units(self):
        maker = Maker(660)
        seen = {self.agree(plant, maker.receipts(plant, 200)).is_too_much()
                for plant in (maker.plant() for _ in range(60))}
        self.assertEqual(seen, {True, False})

    def test_the_order_of_receipts_and_runs_does_not_matter(self):
        maker = Maker(661)
        for _ in range(120):
            plant = maker.plant()
            self.agree(plant, maker.receipts(plant, 12), maker)

    def test_receipts_in_any_order_and_left_out(self):
        self.assertEqual(completed((STAGE,), ((1, 5), (0, 4))), completed((STAGE,), ((0, 4), (1, 5))))
        self.assertEqual(completed((STAGE,), ((0, 4),)), ((1,), ((0, 4), (1, 0), (2, 0)), ((3, 1),)))
        self.assertEqual(completed((STAGE,), ((1, 4),)), ((0,), ((0, 0), (1, 4), (2, 0)), ((0, 7),)))
        self.assertEqual(completed((STAGE,), ()), completed((STAGE,), ((1, 0), (0, 0))))

    def test_initial_units_alone(self):
        plant = line(((0, (), (2,)), 4, (0, (), (3,))), ((0, (), (4,)), 3, (0, (), (1,))))
        self.assertEqual(completed(plant, ()), ((2, 2), ((0, 0), (1, 6), (2, 2)), ((0,), (1,))))

    def test_cycles_that_take_nothing(self):
        plant = line(((0, (0, 0, 0), (1, 0)), 0, (0, (0, 1), (0, 0, 2))),)
        self.assertEqual(completed(plant, ()), ((3,), ((0, 0), (1, 1)), ((0,),)))
        self.assertEqual(completed(plant, ((0, 1),)), ((5,), ((0, 1), (1, 3)), ((0,),)))

    def test_buffers_in_ascending_order(self):
        stage = (((9, (0, (), (1,)), 0, False), (3, (0, (), (1,)), 1, False)),
                 ((7, (0, (), (1,)), 1), (1, (0, (), (2,)), 1))) + REST
        self.assertEqual(completed((stage,), ((9, 2), (3, 2))),
                         ((2,), ((1, 4), (3, 2), (7, 2), (9, 2)), ((0, 1),)))

    def test_long_curves(self):
        flow = upper_inverse((0, (2,), (7, 9, 20)))
        plant = line((LONG, 1, (0, (), (1, 2))), (flow, 4, LONG))
        self.agree(plant, ((0, 7),))
        self.agree(plant, ((0, 1),))
        self.agree(plant, ())

    def test_arguments_stay(self):
        receipts = ((1, 5), (0, 4))
        completed((STAGE,), receipts)
        self.assertEqual(receipts, ((1, 5), (0, 4)))


class TooMuchTest(unittest.TestCase):
    def too_much(self, plant, receipts):
        with self.assertRaises(TooMuch) as caught:
            completed(plant, receipts)
        self.assertIs(type(caught.exception), TooMuch)

    def test_1000_and_1001_cycles(self):
        pressed = ((0, (), (1,)), 0, (0, (1,), (2,)))
        for zeros, many in ((1, 1000), (2, 1001)):
            plant = line(pressed, ((0, (0,) * zeros, (0, 0, 0, 1)), 0, (0, (), (0, 0, 1))))
            floor = Floor(plant)
            floor.complete(((0, 125),))
            self.assertEqual(floor.cycles[1], many)
            if many == 1000:
                self.assertEqual(completed(plant, ((0, 125),)), floor.outcome())
            else:
                self.too_much(plant, ((0, 125),))

    def test_1000_and_1001_produced_units(self):
        for first, many in ((0, 1000), (1, 1001)):
            plant = line(((0, (), (0, 1)), 0, (0, (first,), (2, 3))))
            self.assertEqual(values(plant[0][1][0][1], 402)[401], many)
            if many == 1000:
                self.assertEqual(completed(plant, ((0, 200),)), ((401,), ((0, 200), (1, 1000)), ((0,),)))
            else:
                self.too_much(plant, ((0, 200),))

    def test_1000_and_1001_received_units(self):
        plant = line(((0, (), (4,)), 0, (0, (), (0, 1))))
        self.assertEqual(completed(plant, ((0, 1000),)), ((250,), ((0, 1000), (1, 125)), ((0,),)))
        self.too_much(plant, ((0, 1001),))

    def test_too_many_units_that_a_later_stage_takes(self):
        plant = line(((0, (), (1,)), 1, (0, (), (4, 4, 4, 4))), ((0, (), (4,)), 0, (0, (), (1,))))
        self.assertEqual(completed(plant, ((0, 200),))[0], (201, 201))
        plant = line(((0, (), (1, 0)), 1, (0, (), (4,))), ((0, (), (4,)), 0, (0, (), (1,))))
        self.too_much(plant, ((0, 200),))


class RunnableTest(unittest.TestCase):
    def test_examples_of_the_document(self):
        self.assertEqual(runnable((STAGE,), ((0, 4), (1, 5)), (3,)), (0,))
        self.assertEqual(runnable((STAGE,), ((0, 4), (1, 5)), (4,)), ())

    def test_along_runs_unit_by_unit(self):
        maker = Maker(65)
        for _ in range(80):
            plant = maker.plant()
            receipts, floor = maker.receipts(plant, 9), Floor(plant)
            for material, many in receipts:
                for _ in range(many):
                    floor.enter(material)
            for _ in range(30):
                ready = [number for number in range(len(plant)) if floor.can_run(number)]
                self.assertEqual(runnable(plant, receipts, tuple(floor.cycles)), tuple(ready))
                if ready:
                    floor.run(maker.choice(ready))

    def test_nothing_is_runnable_on_completion(self):
        maker = Maker(651)
        for _ in range(100):
            plant = maker.plant()
            receipts = maker.receipts(plant, 5)
            try:
                cycles = completed(plant, receipts)[0]
            except TooMuch:
                continue
            self.assertEqual(runnable(plant, receipts, cycles), ())

    def test_numbers_of_cycles_that_are_not_possible(self):
        maker = Maker(652)
        for _ in range(150):
            plant = maker.plant()
            receipts = maker.receipts(plant, 50)
            cycles = tuple(maker.choice((0, 1, maker.number(0, 60), 1000)) for _ in plant)
            totals = {material: dict(receipts).get(material, 0) for material in materials(plant)}
            for stage, many in zip(plant, cycles):
                totals.update({output[0]: values(output[1], 1001)[many] for output in stage[1]})
            wanted = [
                number for number, (stage, many) in enumerate(zip(plant, cycles))
                if all(values(feed[1], 1003)[many + 1] <= totals[feed[0]] + feed[2] for feed in stage[0])
            ]
            self.assertEqual(runnable(plant, receipts, cycles), tuple(wanted))

    def test_edges(self):
        plant = line(((0, (), (1,)), 0, (0, (), (1,))), ((0, (), (1,)), 0, (0, (), (1,))))
        self.assertEqual(runnable(plant, (), (5, 4)), (1,))
        self.assertEqual(runnable(plant, ((0, 6),), (5, 5)), (0,))
        self.assertEqual(runnable(plant, ((0, 6),), (5, 4)), (0, 1))
        self.assertEqual(runnable(plant, ((0, 5),), (5, 1000)), ())
        self.assertEqual(runnable(plant, (), (1000, 999)), (1,))


class BalancedTest(unittest.TestCase):
    def plain(self, plant, receipts, totals):
        """By the words of the document, with the supported cycles counted one by one."""
        given, got = dict(totals), dict(receipts)
        wanted = {material: got.get(material, 0) for material in materials(plant)}
        for feeds, outputs, *_ in plant:
            many = min(upper(feed[1], given[feed[0]] + feed[2]) for feed in feeds)
            wanted.update({output[0]: values(output[1], many + 1)[many] for output in outputs})
        return all(given[buffer] == wanted[buffer] for buffer in buffers(plant))

    def test_completed_totals_are_balanced(self):
        maker = Maker(67)
        for _ in range(150):
            plant = maker.plant()
            receipts = maker.receipts(plant, 30)
            try:
                totals = completed(plant, receipts)[1]
            except TooMuch:
                continue
            self.assertIs(is_balanced(plant, receipts, totals), True)
            turned = list(totals)
            maker.random.shuffle(turned)
            self.assertIs(is_balanced(plant, receipts, tuple(turned)), True)

    def test_totals_changed_by_one(self):
        maker = Maker(670)
        for _ in range(60):
            plant = maker.plant()
            receipts = maker.receipts(plant, 12)
            try:
                totals = completed(plant, receipts)[1]
            except TooMuch:
                continue
            for at, (buffer, many) in enumerate(totals):
                for other in (many + 1, many - 1):
                    changed = totals[:at] + ((buffer, max(0, other)),) + totals[at + 1:]
                    self.assertIs(is_balanced(plant, receipts, changed), self.plain(plant, receipts, changed))
                    self.assertIs(is_balanced(plant, receipts, changed), changed == totals)

    def test_totals_of_other_receipts(self):
        totals = completed((STAGE,), ((0, 4), (1, 5)))[1]
        self.assertIs(is_balanced((STAGE,), ((1, 5), (0, 4)), totals), True)
        self.assertIs(is_balanced((STAGE,), ((0, 4), (1, 6)), totals), False)
        self.assertIs(is_balanced((STAGE,), ((0, 4),), totals), False)
        self.assertIs(is_balanced((STAGE,), (), ((2, 0), (1, 0), (0, 0))), True)
        self.assertIs(is_balanced((STAGE,), (), ((2, 1), (1, 0), (0, 0))), False)

    def test_only_balanced_totals_are_completed_ones(self):
        for one in range(8):
            for two in range(8):
                wanted = completed((STAGE,), ((0, one), (1, 5)))[1] == ((0, one), (1, 5), (2, two))
                self.assertIs(is_balanced((STAGE,), ((0, one), (1, 5)), ((0, one), (1, 5), (2, two))), wanted)


class PassedOnTest(unittest.TestCase):
    def test_totals_beyond_the_bounds(self):
        plant = line(((0, (), (1,)), 0, (0, (), (4,))), ((0, (), (3,)), 0, (0, (), (2,))))
        totals = completed(plant, ((0, 200),))[1]
        self.assertEqual(totals, ((0, 200), (1, 800), (2, 532)))
        self.assertIs(is_balanced(plant, ((0, 200),), totals), True)
        self.assertEqual(supports(plant[1][0][0], 1000), 333)


if __name__ == "__main__":
    unittest.main()
