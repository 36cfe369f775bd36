"""Points 160 to 163: convergent plants, paths, impact curves, spread, origin, greatest impact; 6 to 8 for these."""

import unittest

from plantrace.bills import bill_plant
from plantrace.disruptions import disrupted
from plantrace.errors import NotConvergent, PlantError, TooLarge
from plantrace.impact import check_convergent, greatest_impact, impact_curves, origin, path, spread
from plantrace.plants import buffers
from tests.plain import Maker, is_normal, longer, values
from tests.plain_capacity import size
from tests.plain_impact import Contents, convergent, plain_end, plain_path, values_behind
from tests.samples import EACH, REST, SHOP, STAGE, line, stage

REST_TOOL = (1, (0, (0,), (1, 0)), 0, True)


class FailingTest(unittest.TestCase):
    def fails(self, plant, number):
        """Every function fails at this stage, and with no other error."""
        buffer = plant[0][0][0][0]
        for call in (
            lambda: check_convergent(plant), lambda: path(plant, buffer), lambda: impact_curves(plant, buffer),
            lambda: greatest_impact(plant, buffer), lambda: spread(plant, buffer, 1, 2),
            lambda: origin(plant, buffer, 1),
        ):
            with self.assertRaises(NotConvergent) as caught:
                call()
            self.assertIs(type(caught.exception), NotConvergent)
            self.assertEqual(caught.exception.stage, number)

    def test_convergent_ones(self):
        for plant in (SHOP, line((EACH, 0, EACH)), ((SHOP[0][0], ((2, (0, (1,), (2, 1)), 0),)) + REST,)):
            self.assertIsNone(check_convergent(plant))

    def test_the_first_a_middle_and_the_last_stage(self):
        good = [(EACH, 1, (0, (), (2, 1)))] * 4
        for number in range(4):
            for bad in ((EACH, 0, (0, (), (1, 0))), ((0, (), (0, 2)), 1, EACH), (EACH, 0, (0, (0,), (1,))),
                        ((0, (1, 0), (3,)), 0, EACH)):
                self.fails(line(*good[:number], bad, *good[number + 1:]), number)

    def test_a_second_output(self):
        two = stage(((1, EACH, 0),), ((2, EACH), (3, EACH)))
        self.fails((stage(((0, EACH, 0),), ((1, EACH),)), two, stage(((2, EACH, 0),), ((4, EACH),))), 1)

    def test_a_second_output_of_no_units_before_long(self):
        self.fails((stage(((0, EACH, 0),), ((1, EACH), (2, (0, (0, 0, 0, 0), (0, 0, 0, 1))))),), 0)

    def test_the_least_of_several_stages(self):
        bad, good = (EACH, 0, (0, (), (0, 1))), (EACH, 0, EACH)
        self.fails(line(good, bad, good, bad), 1)

    def test_inputs_that_rest(self):
        resting = (0, (), (0, 1))
        plant = (((SHOP[0][0][0], REST_TOOL), ((2, EACH, 1),)) + REST,)
        self.assertIsNone(check_convergent(plant))
        self.fails((((SHOP[0][0][0], (1, resting, 0, False)), ((2, EACH, 1),)) + REST,), 0)
        self.fails((((REST_TOOL, (0, resting, 0, False)), ((2, EACH, 1),)) + REST,), 0)
        self.fails((STAGE,), 0)

    def test_before_curves_that_are_too_large(self):
        slow = (0, (1,) * 61, (1, 2))
        self.fails(line((EACH, 0, slow), (EACH, 0, (0, (), (0, 1)))), 1)

    def test_of_a_buffer_that_does_not_lead_through_the_stage(self):
        self.fails(line((EACH, 0, EACH)) + (stage(((5, (0, (), (0, 1)), 0),), ((6, EACH),)),), 1)

    def test_kind_of_the_error(self):
        self.assertTrue(issubclass(NotConvergent, PlantError))
        self.assertFalse(issubclass(NotConvergent, TooLarge) or issubclass(TooLarge, NotConvergent))

    def test_any_plants(self):
        maker, seen = Maker(160), set()
        for _ in range(400):
            plant = maker.choice((maker.plant, lambda: convergent(maker)))()
            fails = [
                s for s, (feeds, outputs, *_) in enumerate(plant)
                if len(outputs) > 1 or 0 in [step for _, flow, _ in outputs for step in flow[1] + flow[2]]
                or 0 in [step for _, flow, _, tool in feeds if not tool for step in flow[1] + flow[2]]
            ]
            seen.add(bool(fails))
            if fails:
                self.fails(plant, fails[0])
            else:
                self.assertIsNone(check_convergent(plant))
        self.assertEqual(seen, {True, False})


class PathTest(unittest.TestCase):
    def test_examples_of_the_document(self):
        self.assertEqual(path(SHOP, 1), (1, 2, 3))
        self.assertEqual((path(SHOP, 2), path(SHOP, 3)), ((2, 3), (3,)))

    def test_any_plants(self):
        maker = Maker(1600)
        for _ in range(100):
            plant = convergent(maker)
            for buffer in buffers(plant):
                wanted = [buffer] + [output[0] for _, output in plain_path(plant, buffer)]
                self.assertEqual(path(plant, buffer), tuple(wanted))


class ImpactTest(unittest.TestCase):
    def test_examples_of_the_document(self):
        self.assertEqual(impact_curves(SHOP, 1), (EACH, (1, (), (1,))))
        self.assertEqual((spread(SHOP, 1, 2, 2), origin(SHOP, 1, 2), greatest_impact(SHOP, 1)),
            ((2, 3), (1, 2), (2, 1)))

    def test_at_the_end_itself(self):
        self.assertEqual((impact_curves(SHOP, 3), greatest_impact(SHOP, 3)), ((EACH, EACH), (1, 1)))
        self.assertEqual((spread(SHOP, 3, 4, 9), origin(SHOP, 3, 7)), ((4, 9), (7, 7)))

    def contents(self, maker, plant, buffer):
        """Compares with what the units at the end contain, component by component."""
        there = Contents(plant, buffer)
        for _ in range(3):
            first = maker.number(1, 8)
            last = maker.number(first, 8)
            wanted = there.completion(first - 1) + 1, there.influence(last)
            self.assertEqual(spread(plant, buffer, first, last), wanted, (plant, buffer, first, last))
            unit = maker.number(1, 24)
            parts = there.of(unit)
            self.assertEqual(origin(plant, buffer, unit), (min(parts), max(parts)) if parts else None)
        return there

    def curves(self, plant, buffer, there):
        """Compares the curves with what the units at the end contain; they may be too large."""
        try:
            completion, influence = impact_curves(plant, buffer)
        except TooLarge:
            return False
        self.assertTrue(is_normal(completion) and is_normal(influence))
        many = 8
        heights, lasts = values(completion, many), values(influence, many)
        self.assertEqual(heights, [there.completion(x) for x in range(many)])
        self.assertEqual(lasts[1:], [there.influence(x) for x in range(1, many)])
        impacts = [lasts[x + 1] - heights[x] for x in range(many - 1)]
        most, unit = greatest_impact(plant, buffer)
        self.assertGreaterEqual(most, max(impacts))
        if unit < many:
            self.assertEqual((most, unit), (max(impacts), impacts.index(max(impacts)) + 1))
        return True

    def test_component_by_component(self):
        maker, tried = Maker(161), 0
        for _ in range(60):
            plant = convergent(maker, high=2, most=3)
            for buffer in buffers(plant):
                tried += self.curves(plant, buffer, self.contents(maker, plant, buffer))
        self.assertGreater(tried, 150)

    def test_value_by_value(self):
        maker, seen = Maker(1610), []
        for _ in range(60):
            plant = convergent(maker)
            buffer = maker.choice(buffers(plant))
            rows = values_behind(plant, buffer, 300)
            if rows[-1][0][-1] > 3000 or max(size(heights) for pair in rows for heights in pair) > 60:
                continue
            completion, influence = impact_curves(plant, buffer)
            heights, lasts = values(completion, 300), values(influence, 300)
            self.assertEqual((heights, lasts), rows[-1])
            impacts = [lasts[x + 1] - heights[x] for x in range(299)]
            seen.append(impacts.index(max(impacts)) + 1)
            self.assertEqual(greatest_impact(plant, buffer), (max(impacts), seen[-1]))
        self.assertGreater(len(seen), 25)
        self.assertGreater(len(set(seen)), 3)

    def test_the_least_unit_with_the_greatest_impact(self):
        self.assertEqual(greatest_impact(line((EACH, 0, (0, (), (1, 3, 3)))), 0), (3, 2))
        self.assertEqual(greatest_impact(line((EACH, 0, (0, (2, 3), (3, 1)))), 0), (3, 2))
        self.assertEqual(greatest_impact(line((EACH, 0, (0, (4, 1), (2,)))), 0), (4, 1))

    def test_a_tool_that_is_in_use_for_long(self):
        tool = (1, (0, (1, 0, 0, 0, 0), (1, 0, 1)), 0, True)
        plant = (((SHOP[0][0][0], tool), ((2, (0, (), (2,)), 1),)) + REST,)
        self.assertEqual((greatest_impact(plant, 1), spread(plant, 1, 1, 1), spread(plant, 1, 2, 3)),
                         ((10, 1), (1, 10), (11, 16)))
        self.assertEqual([origin(plant, 1, unit) for unit in (1, 10, 11, 14, 15)],
                         [(1, 1), (1, 1), (2, 2), (2, 2), (3, 3)])

    def test_no_origin_and_origins_at_both_ends(self):
        plant = line(((0, (), (2,)), 3, EACH))
        self.assertEqual([origin(plant, 0, unit) for unit in (1, 2, 3, 4)], [None, (1, 1), (2, 3), (4, 5)])
        self.assertEqual((spread(plant, 0, 1, 1), spread(plant, 0, 2, 3), spread(plant, 0, 3, 4)),
                         ((2, 2), (3, 3), (3, 4)))
        before = (((SHOP[0][0][0], (1, (0, (0, 0), (1,)), 1, True)), ((2, EACH, 1),)) + REST,)
        self.assertEqual([origin(before, 1, unit) for unit in (1, 2, 3, 4, 5)], [None, None, None, (1, 1), (2, 2)])
        self.assertEqual(spread(before, 1, 1, 1), (4, 4))

    def test_longer_forms(self):
        plant = line((longer((0, (), (1, 2)), 3, 4), 2, longer((0, (2,), (3, 1)), 2, 3)))
        short = line(((0, (), (1, 2)), 2, (0, (2,), (3, 1))))
        self.assertEqual(impact_curves(plant, 0), impact_curves(short, 0))
        self.assertTrue(all(is_normal(curve) for curve in impact_curves(plant, 0)))

    def test_returned_plants(self):
        plant = bill_plant((((), EACH, 3), (((0, (0, (), (2,))),), (0, (), (2, 1)), 0)))
        changed = disrupted(plant, (0,), ("yield", 0, 0, 11, 1))
        there = Contents(changed, 0)
        self.assertEqual(spread(changed, 0, 20, 24), (there.completion(19) + 1, there.influence(24)))
        self.curves(changed, 0, there)
        self.assertEqual(path(plant, 0), (0, 1))


class TooLargeTest(unittest.TestCase):
    """The elements are counted from values worked out point by point."""

    def sizes(self, plant, buffer):
        return [tuple(size(heights) for heights in pair) for pair in values_behind(plant, buffer, 700)[1:]]

    def too_large(self, plant, buffer):
        for call in (impact_curves, greatest_impact):
            with self.assertRaises(TooLarge) as caught:
                call(plant, buffer)
            self.assertIs(type(caught.exception), TooLarge)

    def pointwise(self, plant, buffer):
        """Spread and origin do not need the curves."""
        completion, influence = values_behind(plant, buffer, 60)[-1]
        self.assertEqual(spread(plant, buffer, 4, 9), (completion[3] + 1, influence[9]))
        first = max(1, next(x for x, height in enumerate(influence) if height >= 24))
        last = next(x for x, height in enumerate(completion) if height >= 24)
        self.assertEqual(origin(plant, buffer, 24), (first, last) if first <= last else None)
        self.assertEqual(path(plant, buffer)[-1], plain_end(plant, buffer))

    def fits(self, plant, buffer):
        rows = values_behind(plant, buffer, 300)[-1]
        self.assertEqual(tuple(values(curve, 300) for curve in impact_curves(plant, buffer)), rows)
        self.assertIsInstance(greatest_impact(plant, buffer), tuple)

    def at_the_sizes(self, flows, wanted):
        """Behind each stage of the line the elements of the two curves are these."""
        plant = line(*flows)
        self.assertEqual(self.sizes(plant, 0), wanted)
        if max(max(pair) for pair in wanted) > 60:
            self.too_large(plant, 0)
        else:
            self.fits(plant, 0)
        self.pointwise(plant, 0)

    def test_both_behind_one_stage(self):
        for many in (60, 61):
            self.at_the_sizes([(EACH, 2, (0, (), (1,) * (many - 1) + (2,)))], [(many, many)])

    def test_completion_alone_at_the_end(self):
        self.at_the_sizes([((0, (1, 3, 1), (3, 2)), 0, (0, (), (3, 3, 3))),
                           ((0, (1,), (4, 4, 2, 1)), 1, (0, (4, 4, 3, 1), (1,)))], [(9, 10), (60, 60)])
        self.at_the_sizes([((0, (1,), (3,)), 3, (0, (), (1, 4, 3, 4))),
                           ((0, (1, 3, 2, 1), (1, 4)), 4, (0, (1, 4, 1), (2, 2, 4)))], [(12, 12), (61, 60)])

    def test_influence_alone_at_the_end(self):
        self.at_the_sizes([((0, (4, 3, 4, 1), (3, 2, 2)), 0, (0, (4, 3, 3), (2, 2, 2, 2))),
                           ((0, (1,), (1, 1, 3, 2)), 4, (0, (1, 4, 1, 1), (1, 1, 2)))], [(18, 19), (60, 61)])

    def test_completion_alone_on_the_way(self):
        self.at_the_sizes([((0, (2, 1, 1, 2), (2, 1, 1)), 2, (0, (3, 2, 2, 3), (2, 4))),
                           ((0, (), (1, 1, 2, 3)), 1, (0, (), (1, 1, 2, 4))),
                           ((0, (2, 1, 4), (1,)), 1, (0, (3, 2, 3, 3), (2, 2)))], [(12, 12), (60, 60), (60, 60)])
        self.at_the_sizes([((0, (4, 3, 4, 3), (2, 3, 2)), 2, (0, (4, 3), (1, 3, 4))),
                           ((0, (4, 3, 4, 4), (1, 2, 2, 2)), 3, (0, (4,), (1,))),
                           ((0, (2, 1, 2), (2,)), 4, (0, (1, 4), (1, 2)))], [(17, 18), (61, 60), (59, 60)])

    def test_influence_alone_on_the_way(self):
        self.at_the_sizes([((0, (4, 1, 4, 1), (4, 3, 4)), 4, (0, (), (2, 4, 1))),
                           ((0, (1, 1, 1, 2), (2, 3)), 3, (0, (3,), (2,))),
                           ((0, (4,), (3, 4, 3, 4)), 3, (0, (), (1, 4)))], [(16, 17), (60, 61), (56, 56)])

    def test_of_a_later_buffer_and_beside_the_path_they_do_not_matter(self):
        long = (0, (), (1,) * 60 + (2,))
        plant = line((EACH, 0, long), (EACH, 0, (0, (), (2, 1))))
        self.too_large(plant, 0)
        self.assertEqual(impact_curves(plant, 1), ((0, (), (2, 1)), (0, (), (2, 1))))
        joined = stage(((0, EACH, 0), (5, EACH, 0)), ((1, EACH),))
        plant = (stage(((4, EACH, 0),), ((5, long),)), joined)
        self.assertEqual(impact_curves(plant, 0), (EACH, EACH))
        self.too_large(plant, 4)

    def test_elements_are_counted_in_normal_form(self):
        plant = line((EACH, 0, longer((0, (), (2, 1)), 40, 9)))
        self.assertEqual(impact_curves(plant, 0), ((0, (), (2, 1)), (0, (), (2, 1))))


if __name__ == "__main__":
    unittest.main()
