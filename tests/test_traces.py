"""Points 141 and 142: upstream and downstream traces; 6 and 7 where they touch these."""

import unittest

from plantrace.bills import bill_plant
from plantrace.plants import buffers
from plantrace.ranges import numbers_of
from plantrace.states import loaded
from plantrace.traces import downstream, upstream
from tests.plain import Maker, Yard, contained, ranges
from tests.samples import EACH, LOTS, REST, STAGE, line

TOOL = (1, (0, (), (1, 0, 0)), 1, True)


def plain_upstream(plant, buffer, units):
    found, cycles = set(), set()
    for unit in units:
        contained(plant, ("unit", buffer, unit), found, cycles)
    rows = sorted({reference[1] for reference in found if reference[0] == "unit"})
    inputs = sorted({reference[1:3] for reference in found if reference[0] == "initial"})
    return (
        tuple((name, ranges(row[2] for row in found if row[:2] == ("unit", name))) for name in rows),
        tuple(ranges(n for t, n in cycles if t == s) for s in range(len(plant))),
        tuple(place + (ranges(row[3] for row in found if row[:3] == ("initial", *place)),) for place in inputs),
    )


class UpstreamTest(unittest.TestCase):
    def test_examples_of_the_document(self):
        self.assertEqual(upstream((STAGE,), 2, (2,)), (
            ((0, ((3, 3),)), (1, ((2, 3),)), (2, ((2, 2),))), (((3, 3),),), ()))
        self.assertEqual(upstream((STAGE,), 2, (1, 3)), (
            ((0, ((2, 3),)), (1, ((1, 3),)), (2, ((1, 1), (3, 3)))), (((2, 3),),), ((0, 1, ((3, 3),)),)))

    def test_component_by_component(self):
        maker = Maker(141)
        for _ in range(150):
            plant = maker.plant()
            for buffer in buffers(plant):
                units = tuple(maker.number(1, maker.choice((3, 24))) for _ in range(maker.number(1, 6)))
                self.assertEqual(upstream(plant, buffer, units), plain_upstream(plant, buffer, units), (plant, units))

    def test_what_runs_have_written(self):
        maker, tried = Maker(1410), 0
        while tried < 60:
            plant = maker.plant()
            _, story = Yard(maker).state(plant)
            inside = story.contents()
            for buffer in {row[0] for row in story.rows}:
                tried += 1
                units = tuple(maker.number(1, story.totals[buffer]) for _ in range(maker.number(1, 6)))
                found = set().union(*(inside["unit", buffer, unit] for unit in units))
                rows, cycles, initial = upstream(plant, buffer, units)
                told = {("unit", name, unit) for name, pairs in rows for unit in numbers_of(pairs)}
                told |= {("initial", s, i, at) for s, i, pairs in initial for at in numbers_of(pairs)}
                self.assertEqual(told, found)
                made = {row[2:4] for row in story.rows if ("unit", *row[:2]) in found}
                self.assertEqual({(s, n) for s, pairs in enumerate(cycles) for n in numbers_of(pairs)}, made)

    def test_units_of_materials_that_do_not_exist(self):
        self.assertEqual(upstream((STAGE,), 1, (24, 3)), (((1, ((3, 3), (24, 24))),), ((),), ()))

    def test_repeated_units_in_any_order(self):
        wanted = upstream((STAGE,), 2, (1, 2, 3))
        self.assertEqual(upstream((STAGE,), 2, (3, 1, 3, 2, 1, 1)), wanted)

    def test_stages_that_did_not_contribute(self):
        plant = line((EACH, 0, EACH), (EACH, 0, EACH)) + ((((7, EACH, 0, False),), ((8, EACH, 1),)) + REST,)
        self.assertEqual(upstream(plant, 1, (4,)), (((0, ((4, 4),)), (1, ((4, 4),))), (((4, 4),), (), ()), ()))
        self.assertEqual(upstream(plant, 8, (2,)), (((7, ((2, 2),)), (8, ((2, 2),))), ((), (), ((2, 2),)), ()))

    def test_initial_units_by_stage_then_by_input(self):
        joined = ((((9, EACH, 4, False), (1, EACH, 1, False), (0, EACH, 2, False)), ((5, EACH, 1),)) + REST)
        plant = ((((3, (0, (), (2,)), 3, False),), ((1, EACH, 1),)) + REST, joined)
        self.assertEqual(upstream(plant, 5, (2, 3, 1))[2], (
            (0, 0, ((1, 3),)), (1, 0, ((1, 3),)), (1, 1, ((1, 1),)), (1, 2, ((1, 2),))))
        self.assertEqual(upstream(plant, 5, (1,))[2], ((1, 0, ((1, 1),)), (1, 1, ((1, 1),)), (1, 2, ((1, 1),))))

    def test_tools_in_use(self):
        plant = ((((0, EACH, 0, False), TOOL), ((2, EACH, 1),)) + REST,)
        self.assertEqual(upstream(plant, 2, (2, 6, 7)), (
            ((0, ((2, 2), (6, 7))), (1, ((1, 2),)), (2, ((2, 2), (6, 7)))), (((2, 2), (6, 7)),), ((0, 1, ((1, 1),)),)))

    def test_before_the_first_tool_is_taken(self):
        plant = ((((0, EACH, 0, False), (1, (0, (0, 0), (1,)), 0, True)), ((2, EACH, 1),)) + REST,)
        self.assertEqual(upstream(plant, 2, (1, 2))[0], ((0, ((1, 2),)), (2, ((1, 2),))))
        self.assertEqual(upstream(plant, 2, (3,))[0], ((0, ((3, 3),)), (1, ((1, 1),)), (2, ((3, 3),))))

    def test_cycles_that_took_nothing(self):
        plant = line(((0, (), (0, 1)), 0, EACH))
        self.assertEqual(upstream(plant, 1, (1,)), (((1, ((1, 1),)),), (((1, 1),),), ()))

    def test_another_output_of_the_cycle_is_not_contained(self):
        plant = ((((0, EACH, 0, False),), ((4, EACH, 1), (1, EACH, 1))) + REST,)
        self.assertEqual(upstream(plant, 4, (2,))[0], ((0, ((2, 2),)), (4, ((2, 2),))))

    def test_the_plant_of_a_bill(self):
        plant = bill_plant((((), EACH, 3), (((0, (0, (), (2,))),), EACH, 0)))
        self.assertEqual(upstream(plant, 1, (2,)), (
            ((0, ((1, 1),)), (1, ((2, 2),))), (((2, 2),),), ((0, 0, ((3, 3),)),)))


class DownstreamTest(unittest.TestCase):
    def test_examples_of_the_document(self):
        state = loaded((STAGE,), LOTS)
        self.assertEqual(downstream(state, ("lot", 2)), ((0, ((3, 5),)), (2, ((2, 4),))))
        self.assertEqual(downstream(state, ("units", 1, 1, 2)), ((1, ((1, 2),)), (2, ((1, 3),))))

    def plain(self, story, given):
        """The existing units that contain one of the given references."""
        found = {unit: True for unit in given}
        for unit, inside in story.contents().items():
            if inside & set(given):
                found[unit] = True
        names = sorted({unit[1] for unit in found})
        return tuple((name, ranges(unit[2] for unit in found if unit[1] == name)) for name in names)

    def test_what_runs_have_written(self):
        maker, seen = Maker(142), 0
        for _ in range(120):
            plant = maker.plant()
            state, story = Yard(maker).state(plant)
            behind = {}
            for lot, (material, quantity, _) in enumerate(state[1]):
                first = behind.get(material, 0) + 1
                last = behind[material] = first + quantity - 1
                wanted = self.plain(story, [("unit", material, unit) for unit in range(first, last + 1)])
                self.assertEqual(downstream(state, ("lot", lot)), wanted)
                self.assertEqual(downstream(state, ("units", material, first, last)), wanted)
            for buffer, total in story.totals.items():
                if total:
                    first = maker.number(1, total)
                    last = maker.number(first, total)
                    given = [("unit", buffer, unit) for unit in range(first, last + 1)]
                    self.assertEqual(downstream(state, ("units", buffer, first, last)), self.plain(story, given))
            for s, ran in enumerate(story.cycles):
                if ran:
                    seen += 1
                    first = maker.number(1, ran)
                    last = maker.number(first, ran)
                    given = [("unit", *row[:2]) for row in story.rows if row[2] == s and first <= row[3] <= last]
                    self.assertEqual(downstream(state, ("cycles", s, first, last)), self.plain(story, given))
        self.assertGreater(seen, 100)

    def test_against_upstream_traces(self):
        maker, tried = Maker(1420), 0
        while tried < 100:
            plant = maker.plant()
            state, story = Yard(maker).state(plant)
            for buffer, total in story.totals.items():
                if not total:
                    continue
                tried += 1
                unit = maker.number(1, total)
                found = {name: numbers_of(pairs) for name, pairs in downstream(state, ("units", buffer, unit, unit))}
                for name, many in story.totals.items():
                    for other in range(1, many + 1):
                        rows = dict(upstream(plant, name, (other,))[0])
                        inside = unit in numbers_of(rows.get(buffer, ()))
                        self.assertIs(other in found.get(name, ()), inside)

    def test_units_that_no_stage_reads(self):
        state = loaded((STAGE,), LOTS)
        self.assertEqual(downstream(state, ("units", 2, 2, 4)), ((2, ((2, 4),)),))

    def test_before_completion(self):
        state = ((STAGE,), LOTS, (2,))
        self.assertEqual(downstream(state, ("lot", 1)), ((0, ((1, 2),)), (2, ((1, 1),))))
        self.assertEqual(downstream(state, ("lot", 2)), ((0, ((3, 5),)),))
        self.assertEqual(downstream(((STAGE,), LOTS, (0,)), ("lot", 0)), ((1, ((1, 5),)),))

    def test_cycles_that_made_nothing(self):
        state = loaded((STAGE,), LOTS)
        self.assertEqual(downstream(state, ("cycles", 0, 1, 1)), ())
        self.assertEqual(downstream(state, ("cycles", 0, 1, 2)), ((2, ((1, 1),)),))
        self.assertEqual(downstream(state, ("cycles", 0, 1, 4)), ((2, ((1, 4),)),))

    def test_cycles_with_several_outputs(self):
        plant = ((((0, EACH, 0, False),), ((4, (0, (), (0, 2)), 1), (1, EACH, 1))) + REST,
                 (((1, EACH, 1, False),), ((5, EACH, 1),)) + REST)
        state = loaded(plant, ((0, 4, 1),))
        self.assertEqual(downstream(state, ("cycles", 0, 2, 3)), ((1, ((2, 3),)), (4, ((1, 2),)), (5, ((3, 4),))))
        self.assertEqual(downstream(state, ("cycles", 0, 1, 1)), ((1, ((1, 1),)), (5, ((2, 2),))))

    def test_tools_before_and_behind_a_change(self):
        plant = ((((0, EACH, 0, False), TOOL), ((2, EACH, 1),)) + REST,)
        state = loaded(plant, ((0, 8, 1), (1, 5, 1)))
        self.assertEqual(downstream(state, ("units", 1, 1, 1)), ((1, ((1, 1),)), (2, ((4, 6),))))
        self.assertEqual(downstream(state, ("units", 1, 2, 5)), ((1, ((2, 5),)), (2, ((7, 8),))))
        self.assertEqual(downstream(state, ("units", 1, 3, 3)), ((1, ((3, 3),)),))

    def test_equal_lots_one_behind_another(self):
        state = loaded((STAGE,), ((0, 2, 5), (0, 2, 5), (1, 3, 1), (1, 3, 1)))
        self.assertEqual([downstream(state, ("lot", lot)) for lot in range(4)], [
            ((0, ((1, 2),)), (2, ((1, 1),))), ((0, ((3, 4),)), (2, ((2, 4),))),
            ((1, ((1, 3),)), (2, ((1, 3),))), ((1, ((4, 6),)), (2, ((4, 4),)))])


if __name__ == "__main__":
    unittest.main()
