"""Points 122 to 124: plant events that are run out, picking rules, conflicts; 7 and 8 where they touch these."""

import unittest

from plantrace.errors import CannotRun
from plantrace.picking import conflict, run_out, waiting
from plantrace.plants import check_plant
from plantrace.records import record
from plantrace.states import is_state
from tests.plain import Maker, Story, Yard, sources
from tests.samples import EACH, REST, STAGE, line

BOX = line((EACH, 0, EACH))


def any_rule(maker, most):
    return tuple(maker.number(1, many + 1) for many in range(maker.number(0, most)))


def left(story):
    """What waits and which tool is in use, in front of each input."""
    return tuple(
        tuple((tuple(story.queues[s, i]), story.tools[s, i]) for i in range(len(stage[0])))
        for s, stage in enumerate(story.plant)
    )


class ExampleTest(unittest.TestCase):
    def test_examples_of_the_document(self):
        plant, first, second, buffer, unit = conflict((1, 2))
        self.assertEqual((first, second), (
            (("receive", 0, 2), ("run", 0)), (("receive", 0, 1), ("run", 0), ("receive", 0, 1))))
        self.assertEqual((buffer, unit), (1, 1))
        self.assertEqual(run_out(plant, first, picks=(1, 2)), ((1, 1, 0, 1, (("unit", 0, 2),)),))
        self.assertEqual(run_out(plant, second, picks=(1, 2)), ((1, 1, 0, 1, (("unit", 0, 1),)),))
        self.assertEqual(run_out(plant, first), ((1, 1, 0, 1, (("unit", 0, 1),)),))
        self.assertEqual(waiting(plant, first), ((((("unit", 0, 2),), None),),))
        with self.assertRaises(CannotRun) as caught:
            run_out(plant, (("receive", 0, 1), ("run", 0), ("run", 0)))
        self.assertEqual(caught.exception.event, 2)


class RunOutTest(unittest.TestCase):
    def test_reference_by_reference_with_any_rule(self):
        maker, rows, tools = Maker(122), 0, 0
        for _ in range(200):
            plant, picks = maker.plant(), any_rule(maker, 6)
            story = Story(plant, picks)
            events = Yard(maker).events(plant, story)
            self.assertEqual(run_out(plant, events, picks=picks), tuple(story.rows), (plant, events, picks))
            self.assertEqual(waiting(plant, events, picks=picks), left(story))
            rows += len(story.rows)
            tools += sum(tool is not None for tool in story.tools.values())
        self.assertGreater(rows, 2000)
        self.assertGreater(tools, 50)

    def test_first_in_first_out_writes_the_records(self):
        maker = Maker(1220)
        yard = Yard(maker)
        for _ in range(120):
            plant = maker.plant()
            story = Story(plant)
            events = yard.events(plant, story)
            rows = run_out(plant, events)
            lots = tuple((event[1], event[2], 0) for event in events if event[0] == "receive" and event[2] > 0)
            state = (plant, lots, tuple(story.cycles))
            for buffer, unit, s, n, held in rows:
                if unit <= 99:
                    self.assertEqual(record(state, buffer, unit), (s, n, None, held))
            for rule in ((1,), (1, 1, 1), (1,) * 6):
                self.assertEqual(run_out(plant, events, picks=rule), rows)
                self.assertEqual(waiting(plant, events, picks=rule), waiting(plant, events))
            if max(story.cycles) <= 24 and max(story.totals.values()) <= 24:
                self.assertIs(is_state(state), True)

    def test_units_of_a_material_before_and_behind_runs(self):
        events = ("receive", 0, 2), ("run", 0), ("receive", 0, 1), ("run", 0), ("run", 0)
        self.assertEqual(run_out(BOX, events), tuple((1, unit, 0, unit, (("unit", 0, unit),)) for unit in (1, 2, 3)))

    def test_no_events_and_receipts_of_nothing(self):
        self.assertEqual(run_out((STAGE,), ()), ())
        there = tuple(("initial", 0, 1, position) for position in (1, 2, 3))
        self.assertEqual(waiting((STAGE,), ()), ((((), None), (there, None)),))
        self.assertEqual(waiting((STAGE,), (("receive", 0, 0), ("receive", 1, 0))), waiting((STAGE,), ()))

    def test_initial_units_are_taken_first(self):
        plant = line(((0, (), (2,)), 3, EACH))
        events = ("receive", 0, 1), ("run", 0), ("run", 0)
        self.assertEqual(run_out(plant, events), (
            (1, 1, 0, 1, (("initial", 0, 0, 1), ("initial", 0, 0, 2))),
            (1, 2, 0, 2, (("initial", 0, 0, 3), ("unit", 0, 1)))))
        self.assertEqual(waiting(plant, events[:2]), (((((("initial", 0, 0, 3)), ("unit", 0, 1)), None),),))

    def test_a_unit_enters_the_queue_of_the_input_that_reads_its_buffer(self):
        plant = line((EACH, 0, (0, (), (3,))), ((0, (), (2,)), 1, (0, (), (0, 1))))
        events = ("receive", 0, 2), ("run", 0), ("run", 1)
        self.assertEqual(run_out(plant, events), tuple((1, unit, 0, 1, (("unit", 0, 1),)) for unit in (1, 2, 3)))
        self.assertEqual(waiting(plant, events), (
            (((("unit", 0, 2),), None),), (((("unit", 1, 2), ("unit", 1, 3)), None),)))
        self.assertEqual(run_out(plant, events + (("run", 1),))[3], (2, 1, 1, 2, (("unit", 1, 2), ("unit", 1, 3))))

    def test_several_outputs_output_by_output(self):
        plant = ((((0, EACH, 0, False),), ((4, (0, (), (2,)), 1), (1, EACH, 1))) + REST,)
        held = (("unit", 0, 1),)
        self.assertEqual(run_out(plant, (("receive", 0, 1), ("run", 0))), (
            (4, 1, 0, 1, held), (4, 2, 0, 1, held), (1, 1, 0, 1, held)))

    def test_cycles_that_take_or_make_nothing(self):
        plant = line(((0, (), (0, 2)), 0, (0, (), (1, 0, 1))))
        events = ("run", 0), ("receive", 0, 2), ("run", 0), ("run", 0)
        self.assertEqual(run_out(plant, events), ((1, 1, 0, 1, ()), (1, 2, 0, 3, ())))
        self.assertEqual(waiting(plant, events), ((((), None),),))


class ToolTest(unittest.TestCase):
    def plant(self, used, stock):
        feeds = ((0, EACH, 0, False), (1, (0,) + used, stock, True))
        return ((feeds, ((2, EACH, 1),)) + REST,)

    def test_before_and_behind_a_change(self):
        plant = self.plant(((), (1, 0)), 1)
        events = ("receive", 0, 4), ("run", 0), ("run", 0), ("receive", 1, 2), ("run", 0)
        first, second = ("initial", 0, 1, 1), ("unit", 1, 1)
        self.assertEqual([row[4][1] for row in run_out(plant, events)], [first, first, second])
        self.assertEqual([waiting(plant, events[:many])[0][1] for many in (1, 2, 3, 4, 5)], [
            ((first,), None), ((), first), ((), first), ((second, ("unit", 1, 2)), first), ((("unit", 1, 2),), second)])

    def test_before_the_first_tool_is_taken(self):
        plant = self.plant(((0, 0), (1,)), 2)
        events = (("receive", 0, 3),) + (("run", 0),) * 3
        self.assertEqual([row[4] for row in run_out(plant, events)], [
            (("unit", 0, 1),), (("unit", 0, 2),), (("unit", 0, 3), ("initial", 0, 1, 1))])
        self.assertIsNone(waiting(plant, events[:3])[0][1][1])

    def test_picked_tools(self):
        plant = self.plant(((), (1,)), 3)
        events = (("receive", 0, 1), ("run", 0), ("receive", 0, 1), ("run", 0))
        self.assertEqual([row[4][1] for row in run_out(plant, events, picks=(1, 2, 3))], [
            ("initial", 0, 1, 3), ("initial", 0, 1, 2)])
        self.assertEqual(waiting(plant, events, picks=(1, 2, 3))[0][1], ((("initial", 0, 1, 1),), ("initial", 0, 1, 2)))

    def test_an_input_that_is_no_tool_input_has_no_tool_in_use(self):
        self.assertEqual(waiting(BOX, (("receive", 0, 1), ("run", 0))), ((((), None),),))


class RuleTest(unittest.TestCase):
    def taken(self, many, runs, picks):
        """The units that are taken one by one when so many wait."""
        rows = run_out(BOX, (("receive", 0, many),) + (("run", 0),) * runs, picks=picks)
        return [row[4][0][2] for row in rows]

    def test_the_element_of_as_many_waiting_units(self):
        self.assertEqual(self.taken(3, 3, (1, 2, 2)), [2, 3, 1])
        self.assertEqual(self.taken(4, 4, (1, 1, 3, 4)), [4, 3, 1, 2])

    def test_rules_shorter_than_the_queue(self):
        self.assertEqual(self.taken(5, 5, (1, 2, 3)), [1, 2, 5, 4, 3])
        self.assertEqual(self.taken(4, 4, (1,)), [1, 2, 3, 4])

    def test_rules_longer_than_the_queue(self):
        self.assertEqual(self.taken(2, 2, (1, 2, 1, 4, 5, 6)), [2, 1])
        self.assertEqual(self.taken(1, 1, (1, 2, 3)), [1])

    def test_components_stand_in_the_order_in_which_they_were_taken(self):
        plant = line(((0, (), (3,)), 1, EACH))
        rows = run_out(plant, (("receive", 0, 3), ("run", 0)), picks=(1, 2, 2, 3))
        self.assertEqual(rows, ((1, 1, 0, 1, (("unit", 0, 2), ("unit", 0, 1), ("unit", 0, 3))),))

    def test_a_rule_holds_for_all_inputs(self):
        plant = ((((0, EACH, 2, False), (1, EACH, 3, False)), ((2, EACH, 1),)) + REST,)
        rows = run_out(plant, (("run", 0),), picks=(1, 2, 3))
        self.assertEqual(rows[0][4], (("initial", 0, 0, 2), ("initial", 0, 1, 3)))


class CannotRunTest(unittest.TestCase):
    def cannot(self, plant, events, at, picks=()):
        for function in (run_out, waiting):
            with self.assertRaises(CannotRun) as caught:
                function(plant, events, picks=picks)
            self.assertIs(type(caught.exception), CannotRun)
            self.assertEqual(caught.exception.event, at)

    def test_the_place_from_0(self):
        self.cannot(BOX, (("run", 0),), 0)
        self.cannot(BOX, (("receive", 0, 0), ("run", 0)), 1)
        self.cannot(BOX, (("receive", 0, 1), ("run", 0), ("run", 0), ("receive", 0, 1), ("run", 0), ("run", 0)), 2)

    def test_any_input_with_too_few_units(self):
        self.cannot((STAGE,), (("run", 0),), 0)
        self.cannot((STAGE,), (("receive", 0, 2), ("run", 0), ("run", 0)), 2)
        self.cannot((STAGE,), (("receive", 1, 9), ("receive", 0, 1), ("run", 0), ("run", 0)), 3)
        self.cannot(line(((0, (), (3,)), 0, EACH)), (("receive", 0, 2), ("run", 0)), 1)

    def test_a_stage_behind_another_one(self):
        plant = line((EACH, 0, (0, (), (1, 2))), ((0, (), (2,)), 0, EACH))
        self.cannot(plant, (("receive", 0, 9), ("run", 0), ("run", 1)), 2, picks=(1, 2))
        self.assertEqual(len(run_out(plant, (("receive", 0, 9), ("run", 0), ("run", 0), ("run", 1)))), 4)

    def test_any_events(self):
        maker, seen = Maker(1221), set()
        for _ in range(200):
            plant, picks = maker.plant(), any_rule(maker, 6)
            story = Story(plant, picks)
            events = tuple(
                maker.choice((("receive", material, maker.number(0, 12)), ("run", maker.number(0, len(plant) - 1))))
                for material in (maker.choice(sorted(sources(plant))) for _ in range(24))
            )
            made = [story.play(event) for event in events]
            at = made.index(False) if False in made else None
            seen.add(at)
            if at is None:
                self.assertEqual(run_out(plant, events, picks=picks), tuple(story.rows))
            else:
                self.cannot(plant, events, at, picks)
        self.assertIn(None, seen)
        self.assertGreater(len(seen), 5)


class ConflictTest(unittest.TestCase):
    def test_first_in_first_out(self):
        for many in range(7):
            self.assertIsNone(conflict((1,) * many))

    def test_the_plant(self):
        plant = conflict((1, 2))[0]
        self.assertEqual(plant, (
            (((0, EACH, 0, False),), ((1, EACH, 1),), (0, (), (0,)), (0, (), (0,)), 1, EACH),))
        self.assertIsNone(check_plant(plant))

    def test_all_rules(self):
        rules = [()]
        for many in range(1, 6):
            rules += [rule + (pick,) for rule in rules if len(rule) == many - 1 for pick in range(1, many + 1)]
        self.assertEqual(len(rules), 1 + 1 + 2 + 6 + 24 + 120)
        for rule in rules:
            others = [many for many, pick in enumerate(rule, 1) if pick != 1]
            if not others:
                self.assertIsNone(conflict(rule))
                continue
            many = min(others)
            plant, first, second, buffer, unit = conflict(rule)
            self.assertEqual(first, (("receive", 0, many), ("run", 0)))
            self.assertEqual(second, (("receive", 0, 1), ("run", 0), ("receive", 0, many - 1)))
            one, two = (dict((row[:2], row[2:]) for row in run_out(plant, events, picks=rule))
                        for events in (first, second))
            self.assertNotEqual(one[buffer, unit], two[buffer, unit])
            self.assertEqual(run_out(plant, first), run_out(plant, second))

    def test_the_first_other_element_stands_last(self):
        self.assertEqual(conflict((1, 1, 1, 1, 1, 3))[1:], (
            (("receive", 0, 6), ("run", 0)), (("receive", 0, 1), ("run", 0), ("receive", 0, 5)), 1, 1))

    def test_the_first_of_several(self):
        self.assertEqual(conflict((1, 1, 2, 4, 5))[1], (("receive", 0, 3), ("run", 0)))


if __name__ == "__main__":
    unittest.main()
