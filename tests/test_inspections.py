"""Points 164 and 165: inspections and exposures; 6 to 8 where they touch these."""

import unittest

from plantrace.errors import NotConvergent, TooLarge
from plantrace.hours import any_open, put_off
from plantrace.inspections import exposure, inspections
from tests.plain import Maker, longer, value
from tests.plain_capacity import size
from tests.plain_impact import Contents, convergent, plain_inspections, plain_path, values_behind
from tests.samples import BARS, EACH, REST, SHOP, line, stage

THIRDS = (0, (), (0, 0, 1))
NEVER_SOON = (0, (0,) * 4, (0, 0, 0, 1))


def with_tool(plant, tool):
    """The plant whose first stage has one more input, a tool input of buffer 19."""
    feeds, *others = plant[0]
    return ((feeds + ((19, tool, 0, True),), *others),) + plant[1:]


def tool_places(plant):
    return [(s, i) for s, stage in enumerate(plant) for i, feed in enumerate(stage[0]) if feed[3]]


class InspectionsTest(unittest.TestCase):
    def test_example_of_the_document(self):
        self.assertEqual(inspections(SHOP, 0, 1, THIRDS, 5), (0, 2, 3, 4, 6, 8))

    def test_cycle_by_cycle(self):
        maker, tried = Maker(164), 0
        while tried < 400:
            plant = maker.plant()
            for s, i in tool_places(plant):
                plan, many = maker.curve(initial=0, high=1, unbounded=True), maker.number(0, 12)
                self.assertEqual(inspections(plant, s, i, plan, many), plain_inspections(plant, s, i, plan, many))
                tried += 1

    def told(self, tool, plan, many):
        return inspections(with_tool(line((EACH, 0, EACH)), tool), 0, 1, plan, many)

    def test_cycle_1_takes_a_tool(self):
        self.assertEqual(self.told((0, (), (1, 0, 0, 0)), NEVER_SOON, 4), (0, 4, 8, 12, 16))
        self.assertEqual(self.told((0, (), (1, 0, 0, 0)), (0, (), (1, 0)), 4), (0, 1, 3, 4, 5))

    def test_cycle_1_takes_none(self):
        self.assertEqual(self.told((0, (0, 0), (1, 0, 0)), NEVER_SOON, 4), (2, 5, 8, 11, 12))
        self.assertEqual(self.told((0, (0,), (1,)), NEVER_SOON, 3), (1, 2, 3, 4))

    def test_inspections_before_the_first_tool_do_not_count(self):
        self.assertEqual(self.told((0, (0, 0, 0, 0), (1, 0, 0, 0)), EACH, 3), (4, 5, 6, 7))
        self.assertEqual(self.told((0, (0, 0, 0, 0), (1, 0, 0, 0)), (0, (1, 1, 1, 1), (0, 0, 0, 1)), 3), (4, 8, 12, 16))

    def test_by_the_plan_alone_and_by_the_tools_alone(self):
        once = (0, (1, 0, 0, 0), (0, 0, 0, 1))
        self.assertEqual(self.told(once, THIRDS, 3), (0, 3, 6, 7))
        self.assertEqual(self.told((0, (), (1, 0)), (0, (0, 0, 0, 0), (0, 0, 0, 1)), 3), (0, 2, 4, 6))

    def test_both_at_one_cycle_is_one_inspection(self):
        self.assertEqual(self.told((0, (), (1, 0, 0)), THIRDS, 3), (0, 3, 6, 9))

    def test_none_but_inspection_0(self):
        self.assertEqual((self.told(EACH, EACH, 0), self.told((0, (0, 0, 0), (1,)), EACH, 0)), ((0,), (3,)))

    def test_of_a_plant_that_is_not_convergent(self):
        plant = with_tool((stage(((0, (0, (), (0, 1)), 0),), ((1, EACH), (2, (0, (), (0, 1))))),), (0, (), (1, 0)))
        self.assertEqual(inspections(plant, 0, 1, THIRDS, 3), (0, 2, 3, 4))

    def test_initial_tools(self):
        plant = (((BARS, (1, (0, (), (1, 0)), 4, True)), ((2, EACH, 1),)) + REST,)
        self.assertEqual(inspections(plant, 0, 1, THIRDS, 5), (0, 2, 3, 4, 6, 8))

    def test_returned_plans(self):
        plan = put_off(any_open((0, (), (0, 1, 0, 0)), THIRDS), 3)
        self.assertEqual(inspections(SHOP, 0, 1, plan, 12), plain_inspections(SHOP, 0, 1, plan, 12))


class ExposureTest(unittest.TestCase):
    def test_example_of_the_document(self):
        self.assertEqual(exposure(SHOP, 0, 1, THIRDS), (2, 0))

    def test_component_by_component(self):
        """For the first inspections: the units at the end to which the cycles in between contributed."""
        maker, tried = Maker(165), 0
        while tried < 60:
            plant = convergent(maker, high=2, most=2)
            for s, i in tool_places(plant):
                plan = maker.curve(initial=0, high=1, unbounded=True)
                buffer, production, _ = plant[s][1][0]
                cycles = plain_inspections(plant, s, i, plan, 6)
                made = [value(production, cycle) for cycle in cycles]
                there, unit, rows = Contents(plant, buffer), 1, [0] * 6
                while not there.of(unit) or min(there.of(unit)) <= made[-1]:
                    for k in range(6):
                        rows[k] += any(made[k] < part <= made[k + 1] for part in there.of(unit))
                    unit += 1
                most, at = exposure(plant, s, i, plan)
                self.assertGreaterEqual(most, max(rows))
                if at < 6:
                    self.assertEqual((most, at), (max(rows), rows.index(max(rows))))
                    tried += 1

    def rows(self, plant, s, i, plan, many):
        """What completion and influence by cycle and by inspection are, value by value, as lists."""
        _, production, _ = plant[s][1][0]
        cycles = plain_inspections(plant, s, i, plan, many)
        behind = values_behind(plant, plant[s][1][0][0], value(production, max(cycles[-1], many)) + 1)[-1]
        by_cycle = [[heights[value(production, n)] for n in range(many)] for heights in behind]
        completion = [behind[0][value(production, n)] for n in cycles[:-1]]
        influence = [behind[1][value(production, n)] for n in cycles[1:]]
        return by_cycle + [completion, influence]

    def test_inspection_by_inspection(self):
        maker, seen, large = Maker(1650), [], 0
        while len(seen) < 60:
            plant = convergent(maker, high=2)
            for s, i in tool_places(plant):
                plan = maker.curve(initial=0, high=1, unbounded=True)
                try:
                    most, at = exposure(plant, s, i, plan)
                except TooLarge:
                    large += 1
                    continue
                *_, completion, influence = self.rows(plant, s, i, plan, 90)
                gaps = [high - low for low, high in zip(completion, influence)]
                seen.append(at)
                self.assertEqual((most, at), (max(gaps), gaps.index(max(gaps))))
        self.assertGreater(len(set(seen)), 4)
        self.assertLess(large, 200)

    def test_the_least_inspection_with_the_exposure(self):
        plant = with_tool(line((EACH, 0, (0, (), (2, 1)))), (0, (), (1, 0, 0, 0, 0, 0)))
        self.assertEqual(exposure(plant, 0, 1, (0, (), (1, 0, 1, 0))), (3, 1))
        self.assertEqual(exposure(plant, 0, 1, EACH), (2, 0))
        late = with_tool(line((EACH, 0, (0, (4, 4, 4), (1,)))), (0, (0, 0), (1, 0, 0, 0)))
        self.assertEqual(exposure(late, 0, 1, NEVER_SOON), (7, 0))

    def test_a_tool_input_behind_another_stage(self):
        tool = (7, (0, (), (1, 0, 0)), 1, True)
        second = (((1, EACH, 2, False), tool), ((2, (0, (), (2,)), 1),)) + REST
        plant = line((EACH, 0, EACH)) + (second, stage(((2, (0, (), (3,)), 0),), ((3, EACH),)))
        self.assertEqual(exposure(plant, 1, 1, NEVER_SOON), (2, 0))
        self.assertEqual(exposure(plant, 1, 1, EACH), (2, 1))

    def fails(self, plant, s, i, number):
        with self.assertRaises(NotConvergent) as caught:
            exposure(plant, s, i, THIRDS)
        self.assertIs(type(caught.exception), NotConvergent)
        self.assertEqual(caught.exception.stage, number)

    def test_not_convergent(self):
        bad, good = (EACH, 0, (0, (), (0, 1))), (EACH, 0, EACH)
        tool = (0, (), (1, 0))
        self.fails(with_tool(line(bad, good, bad), tool), 0, 1, 0)
        self.fails(with_tool(line(good, bad, bad), tool), 0, 1, 1)
        self.fails(with_tool(line(good, good, bad), tool), 0, 1, 2)
        self.fails(with_tool((stage(((0, EACH, 0),), ((1, EACH), (2, EACH))),), tool), 0, 1, 0)

    def test_not_convergent_before_too_large(self):
        long = (EACH, 0, (0, (), (1,) * 60 + (2,)))
        self.fails(with_tool(line(long, (EACH, 0, (0, (), (0, 1)))), (0, (), (1, 0))), 0, 1, 1)


class TooLargeTest(unittest.TestCase):
    """The elements of the four curves, in their order, are counted from values worked out point by point."""

    def at_the_sizes(self, plant, plan, wanted):
        rows = ExposureTest.rows(self, plant, 0, 1, plan, 260)
        self.assertEqual(tuple(size(heights) for heights in rows), wanted)
        if max(wanted) > 60:
            self.too_large(plant, plan)
        else:
            gaps = [high - low for low, high in zip(*rows[2:])]
            self.assertEqual(exposure(plant, 0, 1, plan), (max(gaps), gaps.index(max(gaps))))

    def too_large(self, plant, plan):
        with self.assertRaises(TooLarge) as caught:
            exposure(plant, 0, 1, plan)
        self.assertIs(type(caught.exception), TooLarge)

    def test_completion_by_cycle(self):
        for flows, tool, plan, wanted in (
            ([((0, (2, 2, 4, 1), (3,)), 2, (0, (1, 1, 2, 2), (3, 1, 2, 3))),
              ((0, (4,), (4, 4, 4, 2)), 3, (0, (1, 1, 1), (2, 2, 2, 1)))],
             (0, (0, 0), (1, 1, 1)), (0, (), (0, 1)), (60, 59, 58, 56)),
            ([((0, (4,), (1,)), 2, (0, (2, 1, 1, 1), (4, 2, 2, 1))),
              ((0, (4,), (3, 3, 1)), 4, (0, (1, 4, 3, 4), (3, 4, 3))),
              ((0, (3, 1, 3, 2), (4,)), 0, (0, (), (4,)))],
             (0, (0, 0, 0, 1), (1,)), (0, (0, 1), (1, 0, 0, 0)), (61, 56, 58, 56)),
        ):
            self.at_the_sizes(with_tool(line(*flows), tool), plan, wanted)

    def test_influence_by_cycle(self):
        for flows, tool, plan, wanted in (
            ([((0, (2,), (3,)), 3, (0, (1, 3, 3, 4), (2, 3))),
              ((0, (3, 3, 3, 3), (4, 1, 2)), 1, (0, (3,), (4, 3))),
              ((0, (1, 1), (1, 2)), 3, (0, (2, 1, 3, 3), (4, 4, 4, 1)))],
             (0, (1, 0), (1,)), (0, (1, 0), (1, 0, 0, 1)), (58, 60, 58, 59)),
            ([((0, (4,), (2, 3, 3)), 1, (0, (1,), (1, 3, 4, 2))),
              ((0, (2, 2, 2, 4), (2, 4, 1)), 0, (0, (), (1, 3, 2, 2)))],
             (0, (1, 0, 0), (1, 0, 1, 1)), (0, (0, 0, 0), (1, 1, 1, 0)), (59, 61, 56, 58)),
        ):
            self.at_the_sizes(with_tool(line(*flows), tool), plan, wanted)

    def test_completion_by_inspection(self):
        for flows, tool, plan, wanted in (
            ([((0, (1, 4, 3), (1, 4, 3, 4)), 1, (0, (1, 2, 1, 4), (3, 3, 3, 1))),
              ((0, (3, 2, 3), (3, 1, 2, 1)), 4, (0, (3, 4), (1, 4, 2, 2)))],
             (0, (), (1, 0, 0, 1)), (0, (1, 1, 0), (0, 1, 0)), (32, 32, 60, 59)),
            ([((0, (1, 2, 1), (2,)), 2, (0, (2, 3), (1,))), ((0, (), (3, 4)), 1, (0, (3, 1, 2, 4), (4, 1))),
              ((0, (1, 2), (1, 2)), 3, (0, (1, 2, 4, 1), (4,)))],
             (0, (), (0, 0, 1)), (0, (), (1, 0, 0, 1)), (31, 28, 61, 58)),
        ):
            self.at_the_sizes(with_tool(line(*flows), tool), plan, wanted)

    def test_influence_by_inspection(self):
        for flows, tool, plan, wanted in (
            ([((0, (1, 2, 4), (4, 4, 2)), 1, (0, (), (1, 1))),
                ((0, (2, 1, 3, 4), (2, 2, 3)), 0, (0, (3, 3), (2, 3, 4))),
              ((0, (1, 3, 1), (4, 4, 3, 1)), 4, (0, (4, 2), (3, 4, 1)))],
             (0, (1, 1, 0, 0), (0, 1)), (0, (0, 0, 1), (0, 1, 0)), (33, 36, 59, 60)),
            ([((0, (2, 4), (3, 3, 1)), 2, (0, (), (3, 3, 1, 4))),
              ((0, (2, 3, 1, 2), (4, 2, 3, 1)), 1, (0, (1, 4, 1), (1, 1, 2, 3)))],
             (0, (1, 0), (0, 1, 0)), (0, (), (0, 1, 0, 0)), (42, 43, 60, 61)),
        ):
            self.at_the_sizes(with_tool(line(*flows), tool), plan, wanted)

    def test_impact_curves_on_the_way(self):
        """The curves behind the second of three further stages have 61 elements and 60; those at the end have fewer."""
        flows = [((0, (4, 3, 4, 3), (2, 3, 2)), 2, (0, (4, 3), (1, 3, 4))),
                 ((0, (4, 3, 4, 4), (1, 2, 2, 2)), 3, (0, (4,), (1,))),
                 ((0, (2, 1, 2), (2,)), 4, (0, (1, 4), (1, 2)))]
        plant = with_tool(line((EACH, 0, EACH), *flows), EACH)
        found = [tuple(size(heights) for heights in pair) for pair in values_behind(plant, 1, 700)[1:]]
        self.assertEqual(found, [(17, 18), (61, 60), (59, 60)])
        self.assertEqual(len(plain_path(plant, 1)), 3)
        self.too_large(plant, EACH)

    def test_elements_are_counted_in_normal_form(self):
        plant = with_tool(line((EACH, 0, longer((0, (), (2, 1)), 40, 9))), longer((0, (), (1, 0)), 30, 5))
        self.assertEqual(exposure(plant, 0, 1, longer(EACH, 70, 1)), (2, 0))

    def test_curves_beside_the_path_do_not_matter(self):
        long = (0, (), (1,) * 60 + (2,))
        other = stage(((5, EACH, 0),), ((6, long),))
        plant = with_tool(line((EACH, 0, EACH)), (0, (), (1, 0))) + (other,)
        self.assertEqual(exposure(plant, 0, 1, NEVER_SOON), (2, 0))


if __name__ == "__main__":
    unittest.main()
