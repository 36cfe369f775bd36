"""Points 86 to 89: slowest paths, limiting chains, requirement paths, what meets a demand; 6 to 8 there."""

import unittest
from fractions import Fraction

from plantrace.chains import limiting_chain, meets, requirement_path, slowest_path
from plantrace.completion import completed
from plantrace.errors import TooMuch
from plantrace.plants import buffers, materials
from plantrace.requirements import requirements
from tests.plain import Floor, Maker, longer, lower, step, value
from tests.samples import EACH, PARTS, REST, STAGE, line, stage
from tests.test_requirements import demand_of, plain_required


def all_paths(plant, material, buffer):
    """All paths from a material or another buffer, one by one, with their rates."""
    if material == buffer:
        return [(Fraction(1), ())]
    found = []
    for s, (feeds, outputs, *_) in enumerate(plant):
        for i, feed in enumerate(feeds):
            for o, output in enumerate(outputs):
                if feed[0] == material:
                    used, made = feed[1][2], output[1][2]
                    rate = Fraction(len(used), sum(used)) * Fraction(sum(made), len(made))
                    found += [(rate * behind, ((s, i, o),) + steps)
                              for behind, steps in all_paths(plant, output[0], buffer)]
    return found


class SlowestPathTest(unittest.TestCase):
    def test_examples_of_the_document(self):
        self.assertEqual(slowest_path((STAGE,), 2, 1), ((3, 4), ((0, 1, 0),)))
        self.assertEqual(slowest_path((STAGE,), 1, 1), ((1, 1), ()))
        self.assertIsNone(slowest_path((STAGE,), 1, 0))

    def agree(self, plant):
        for material in materials(plant):
            for buffer in buffers(plant):
                paths = all_paths(plant, material, buffer)
                if not paths:
                    self.assertIsNone(slowest_path(plant, buffer, material))
                    continue
                rate, steps = min(paths)
                self.assertEqual(slowest_path(plant, buffer, material), ((rate.numerator, rate.denominator), steps))

    def test_all_paths_one_by_one(self):
        maker = Maker(86)
        for _ in range(150):
            self.agree(maker.plant())

    def meshed(self, maker):
        """A plant in which each stage reads several buffers of the stage before."""
        def flow():
            return (0, (), maker.choice(((1,), (1, 1), (2,), (1, 2), (3, 3, 0))))
        first = stage(((0, flow(), 0),), ((1, flow()), (2, flow()), (3, flow())))
        second = stage(((3, flow(), 0), (1, flow(), 1)), ((4, flow()), (5, flow())))
        third = stage(((5, flow(), 0), (2, flow(), 0), (4, flow(), 0)), ((6, flow()), (7, flow())))
        return first, second, third, stage(((9, flow(), 0), (7, flow(), 0), (6, flow(), 0)), ((8, flow()),))

    def test_several_paths(self):
        maker, several = Maker(860), 0
        for _ in range(120):
            plant = self.meshed(maker)
            self.agree(plant)
            rates = [rate for rate, _ in all_paths(plant, 0, 8)]
            self.assertEqual(len(rates), 10)
            several += rates.count(min(rates)) > 1
        self.assertGreater(several, 20)

    def test_paths_with_the_same_rate(self):
        first = stage(((0, EACH, 0),), ((3, EACH), (2, EACH), (1, EACH)))
        second = stage(((2, EACH, 0), (1, EACH, 0), (3, EACH, 0)), ((5, EACH), (4, EACH)))
        self.assertEqual(slowest_path((first, second), 4, 0), ((1, 1), ((0, 0, 0), (1, 2, 1))))
        second = stage(((2, EACH, 0), (1, (0, (), (2,)), 0), (3, EACH, 0)), ((5, EACH), (4, EACH)))
        self.assertEqual(slowest_path((first, second), 4, 0), ((1, 2), ((0, 0, 2), (1, 1, 1))))

    def test_rates_without_common_divisors(self):
        plant = line(((0, (), (4, 2)), 0, (0, (9,), (2, 4, 4, 2))), ((0, (3,), (2, 0)), 1, (0, (), (2,))))
        self.assertEqual(slowest_path(plant, 1, 0)[0], (1, 1))
        self.assertEqual(slowest_path(plant, 2, 0)[0], (2, 1))
        plant = line((longer((0, (), (4, 2)), 3, 5), 0, longer((0, (9,), (2, 4, 4, 2)), 2, 7)))
        self.assertEqual(slowest_path(plant, 1, 0), ((1, 1), ((0, 0, 0),)))

    def test_the_rate_is_that_of_the_capacity_curve_with_one_path(self):
        plant = line(((0, (), (3,)), 2, (0, (), (1, 1, 3))), ((0, (4,), (1, 3)), 0, (0, (), (0, 1))))
        self.assertEqual(slowest_path(plant, 2, 0), ((5, 36), ((0, 0, 0), (1, 0, 0))))


class LimitingChainTest(unittest.TestCase):
    def test_examples_of_the_document(self):
        self.assertEqual(limiting_chain((STAGE,), ((0, 6), (1, 5)), 2), ((0, 1),))
        self.assertEqual(limiting_chain((STAGE,), ((0, 4), (1, 5)), 2), ((0, 0),))

    def plain(self, plant, floor, buffer):
        """Back from the buffer: the first queue in front of the stage that is too short for the next cycle."""
        for s, (feeds, outputs, *_) in enumerate(plant):
            if buffer in [output[0] for output in outputs]:
                short = [i for i, feed in enumerate(feeds)
                         if len(floor.queues[s][i]) < step(feed[1], floor.cycles[s])]
                return ((s, short[0]),) + self.plain(plant, floor, feeds[short[0]][0])
        return ()

    def test_unit_by_unit(self):
        maker, longest = Maker(87), 0
        for _ in range(200):
            plant = maker.plant()
            receipts, floor = maker.receipts(plant, maker.choice((0, 5, 60))), Floor(plant)
            floor.complete(receipts)
            for buffer in buffers(plant):
                if floor.is_too_much():
                    self.too_much(plant, receipts, buffer)
                else:
                    wanted = self.plain(plant, floor, buffer)
                    self.assertEqual(limiting_chain(plant, receipts, buffer), wanted)
                    longest = max(longest, len(wanted))
        self.assertGreater(longest, 2)

    def test_a_material_and_receipts_left_out(self):
        self.assertEqual(limiting_chain((STAGE,), ((0, 6),), 0), ())
        self.assertEqual(limiting_chain((STAGE,), ((1, 50),), 2), ((0, 0),))
        self.assertEqual(limiting_chain((STAGE,), (), 2), ((0, 0),))
        self.assertEqual(limiting_chain((STAGE,), ((0, 2),), 2), ((0, 1),))

    def too_much(self, plant, receipts, buffer):
        with self.assertRaises(TooMuch) as caught:
            limiting_chain(plant, receipts, buffer)
        self.assertIs(type(caught.exception), TooMuch)

    def test_too_much_anywhere(self):
        plant = line((EACH, 0, (0, (), (4,)))) + (stage(((5, EACH, 1),), ((6, (0, (), (5,))),)),)
        self.assertEqual(limiting_chain(plant, ((5, 199),), 1), ((0, 0),))
        self.too_much(plant, ((5, 200),), 1)
        self.too_much(plant, ((5, 200),), 0)


class RequirementPathTest(unittest.TestCase):
    def test_examples_of_the_document(self):
        self.assertEqual(requirement_path((STAGE,), ((2, 4), (1, 5)), 0), ((0, 0, 0),))
        self.assertEqual(requirement_path((STAGE,), ((2, 4), (1, 5)), 1), ())

    def plain(self, plant, demand, units, cycles, buffer):
        """Step by step, with the cycles of each output counted up from 0."""
        if units[buffer] == max([many for name, many in demand if name == buffer], default=0):
            return ()
        for s, (feeds, outputs, *_) in enumerate(plant):
            for i, feed in enumerate(feeds):
                if feed[0] == buffer:
                    needs = [lower(made, units[name]) for name, made, _ in outputs]
                    o = needs.index(cycles[s])
                    return ((s, i, o),) + self.plain(plant, demand, units, cycles, outputs[o][0])
        raise AssertionError("more is required than is demanded, and nothing reads it")

    def test_step_by_step(self):
        maker, longest = Maker(88), 0
        while longest < 3 or maker.number(0, 80):
            plant = maker.plant()
            demand = demand_of(maker, plant, 20)
            units, cycles = plain_required(plant, demand)
            if max(cycles) > 200 or max(units.values()) > 1000:
                continue
            for material in materials(plant):
                found = requirement_path(plant, demand, material)
                if units[material] == 0:
                    self.assertIsNone(found)
                else:
                    self.assertEqual(found, self.plain(plant, demand, units, cycles, material))
                    longest = max(longest, len(found))

    def test_no_requirement(self):
        self.assertIsNone(requirement_path((STAGE,), (), 0))
        self.assertIsNone(requirement_path((STAGE,), ((0, 0), (2, 0)), 0))
        self.assertIsNone(requirement_path((STAGE,), ((2, 0), (0, 7)), 1))
        self.assertEqual(requirement_path((STAGE,), ((2, 2), (0, 7)), 0), ())
        self.assertIsNone(requirement_path(line(((0, (), (2,)), 4, EACH)), ((1, 2),), 0))
        self.assertEqual(requirement_path(line(((0, (), (2,)), 4, EACH)), ((1, 3),), 0), ((0, 0, 0),))

    def test_it_ends_where_the_demand_is_the_requirement(self):
        plant = line((EACH, 0, EACH), (EACH, 0, EACH), (EACH, 0, EACH))
        self.assertEqual(requirement_path(plant, ((2, 5), (3, 5)), 0), ((0, 0, 0), (1, 0, 0)))
        self.assertEqual(requirement_path(plant, ((2, 4), (3, 5)), 0), ((0, 0, 0), (1, 0, 0), (2, 0, 0)))
        self.assertEqual(requirement_path(plant, ((0, 4), (3, 5), (0, 5)), 0), ())

    def test_the_first_output_with_as_many_cycles(self):
        plant = (((PARTS,), ((3, (0, (), (2,)), 1), (1, EACH, 1), (2, (0, (), (4,)), 1))) + REST,)
        for demand, place in ((((1, 3), (2, 12), (3, 4)), 1), (((1, 2), (2, 9)), 2), (((1, 2), (3, 3)), 0)):
            self.assertEqual(requirement_path(plant, demand, 0), ((0, 0, place),))

    def test_too_much(self):
        plant = line(((0, (), (0, 1)), 0, EACH), (EACH, 201, (0, (0,), (0, 0, 0, 0, 1))))
        for demand in (((2, 200),), ((2, 200), (0, 0))):
            with self.assertRaises(TooMuch) as caught:
                requirement_path(plant, demand, 0)
            self.assertIs(type(caught.exception), TooMuch)
        self.assertEqual(requirement_path(plant, ((2, 199),), 0), ((0, 0, 0), (1, 0, 0)))


class MeetsTest(unittest.TestCase):
    def test_examples_of_the_document(self):
        received = ((0, 4), (1, 5))
        self.assertIs(meets((STAGE,), received, (2,), ((2, 3),)), False)
        self.assertIs(meets((STAGE,), received, (4,), ((2, 3),)), True)
        self.assertIs(meets((STAGE,), received, (5,), ()), False)

    def plain(self, plant, receipts, cycles, demand):
        """Cycle by cycle, counted up."""
        totals = {material: dict(receipts).get(material, 0) for material in materials(plant)}
        for stage_, many in zip(plant, cycles):
            totals.update({output[0]: value(output[1], many) for output in stage_[1]})
        for stage_, many in zip(plant, cycles):
            if any(value(feed[1], many) > totals[feed[0]] + feed[2] for feed in stage_[0]):
                return False
        return all(totals[buffer] >= many for buffer, many in demand)

    def test_any_numbers_of_cycles(self):
        maker, seen = Maker(89), []
        for _ in range(300):
            plant = maker.plant()
            receipts, demand = maker.receipts(plant, 60), demand_of(maker, plant, maker.choice((3, 20)))
            cycles = tuple(maker.choice((0, maker.number(0, 9), maker.number(0, 60))) for _ in plant)
            seen.append(meets(plant, receipts, cycles, demand))
            self.assertIs(seen[-1], self.plain(plant, receipts, cycles, demand))
        self.assertTrue(40 < sum(seen) < 260)

    def test_required_cycles_meet_the_demand_with_the_required_units(self):
        maker = Maker(890)
        for _ in range(120):
            plant = maker.plant()
            demand = demand_of(maker, plant, 12)
            try:
                units, cycles = requirements(plant, demand)
            except TooMuch:
                continue
            self.assertIs(meets(plant, units, cycles, demand), True)
            for s, many in enumerate(cycles):
                if many > 0:
                    fewer = cycles[:s] + (many - 1,) + cycles[s + 1:]
                    self.assertIs(meets(plant, units, fewer, demand), False)

    def test_completed_cycles_and_one_more(self):
        maker = Maker(891)
        for _ in range(120):
            plant = maker.plant()
            receipts = maker.receipts(plant, 12)
            try:
                cycles, totals, _ = completed(plant, receipts)
            except TooMuch:
                continue
            self.assertIs(meets(plant, receipts, cycles, totals), True)
            for s, many in enumerate(cycles):
                more = cycles[:s] + (many + 1,) + cycles[s + 1:]
                self.assertIs(meets(plant, receipts, more, ()), False)
            for buffer, many in totals:
                self.assertIs(meets(plant, receipts, cycles, ((buffer, many + 1),)), False)

    def test_no_cycles_and_no_demand(self):
        self.assertIs(meets((STAGE,), (), (0,), ()), True)
        self.assertIs(meets((STAGE,), (), (0,), ((2, 0), (0, 0))), True)
        self.assertIs(meets((STAGE,), ((0, 3),), (0,), ((0, 3), (1, 1))), False)
        self.assertIs(meets((STAGE,), ((0, 3), (1, 1)), (0,), ((0, 3), (1, 1))), True)

    def test_a_buffer_that_occurs_several_times(self):
        received = ((1, 5), (0, 4))
        self.assertIs(meets((STAGE,), received, (3,), ((2, 3), (2, 1))), True)
        self.assertIs(meets((STAGE,), received, (3,), ((2, 1), (2, 4))), False)

    def test_many_cycles(self):
        plant = line(((0, (), (1, 0, 0, 0, 0)), 0, EACH), ((0, (), (1, 0)), 0, EACH))
        self.assertIs(meets(plant, ((0, 200),), (1000, 1000), ((2, 1000),)), True)
        self.assertIs(meets(plant, ((0, 199),), (1000, 1000), ()), False)


if __name__ == "__main__":
    unittest.main()
