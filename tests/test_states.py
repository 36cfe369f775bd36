"""Point 120: lots, states, existing units, loaded states; 7 and 8 where they touch these."""

import unittest

from plantrace.bills import bill_plant
from plantrace.disruptions import disrupted
from plantrace.errors import TooMuch
from plantrace.records import record
from plantrace.states import is_state, loaded, totals
from tests.plain import Floor, Maker, Story, Yard
from tests.samples import EACH, LOTS, REST, STAGE, line


def story_of(plant, lots):
    """All lots received, one behind another."""
    story = Story(plant)
    for material, quantity, _ in lots:
        story.play(("receive", material, quantity))
    return story


def is_led_to(plant, lots, cycles):
    """True if single runs of runnable stages lead to these cycles, in any order that can be made."""
    story = story_of(plant, lots)
    while True:
        ready = [s for s in range(len(plant)) if story.cycles[s] < cycles[s] and story.can_run(s)]
        if not ready:
            break
        story.run(ready[-1])
    small = max(cycles) <= 24 and max(story.totals.values()) <= 24
    return small and tuple(story.cycles) == cycles


class LoadedTest(unittest.TestCase):
    def test_example_of_the_document(self):
        state = loaded((STAGE,), LOTS)
        self.assertEqual((state[2], totals(state)), ((4,), ((0, 5), (1, 5), (2, 4))))
        self.assertEqual(state, ((STAGE,), LOTS, (4,)))

    def test_unit_by_unit(self):
        maker, seen = Maker(120), set()
        yard = Yard(maker)
        for _ in range(250):
            plant = maker.plant()
            lots = tuple(yard.lot(plant) for _ in range(maker.number(0, 4)))
            floor = Floor(plant)
            floor.complete(tuple(lot[:2] for lot in lots))
            small = max(floor.cycles) <= 24 and max(floor.totals.values()) <= 24
            seen.add(small)
            if small:
                state = loaded(plant, lots)
                self.assertEqual(state, (plant, lots, tuple(floor.cycles)))
                self.assertEqual(totals(state), tuple(sorted(floor.totals.items())))
                self.assertIs(is_state(state), True)
            else:
                self.too_much(plant, lots)
        self.assertEqual(seen, {True, False})

    def too_much(self, plant, lots):
        with self.assertRaises(TooMuch) as caught:
            loaded(plant, lots)
        self.assertIs(type(caught.exception), TooMuch)

    def test_no_lots(self):
        self.assertEqual(loaded((STAGE,), ()), ((STAGE,), (), (0,)))
        plant = line(((0, (), (2,)), 4, EACH))
        self.assertEqual(loaded(plant, ()), (plant, (), (2,)))
        self.too_much(line(((0, (0,) * 25, (1,)), 0, (0, (), (0,) * 30 + (1,)))), ())

    def test_24_and_25_cycles(self):
        plant = line(((0, (0,) * 4, (0, 1)), 0, (0, (), (0, 0, 1))))
        self.assertEqual(loaded(plant, ((0, 9, 0),))[2], (23,))
        self.too_much(plant, ((0, 10, 0),))
        plant = line(((0, (0,) * 5, (0, 1)), 0, (0, (), (0, 0, 1))))
        self.assertEqual(loaded(plant, ((0, 9, 0),))[2], (24,))
        self.too_much(plant, ((0, 9, 0), (0, 1, 0)))

    def test_24_and_25_produced_units(self):
        plant = line((EACH, 0, (0, (), (4,))))
        self.assertEqual(totals(loaded(plant, ((0, 6, 0),))), ((0, 6), (1, 24)))
        self.too_much(line((EACH, 0, (0, (1,), (4,)))), ((0, 7, 0),))

    def test_24_and_25_received_units(self):
        plant = line(((0, (), (4,)), 0, EACH))
        self.assertEqual(loaded(plant, ((0, 12, 0), (0, 12, 0)))[2], (6,))
        self.too_much(plant, ((0, 12, 0), (0, 12, 0), (0, 1, 0)))

    def test_far_too_much(self):
        plant = line((EACH, 0, (0, (), (4,))), (EACH, 0, (0, (), (4,))), (EACH, 0, (0, (), (4,))))
        self.too_much(plant, ((0, 12, 0), (0, 12, 0)))


class IsStateTest(unittest.TestCase):
    def test_states_on_the_way_and_one_cycle_more(self):
        maker = Maker(1200)
        yard = Yard(maker)
        for _ in range(150):
            plant = maker.plant()
            state, story = yard.state(plant)
            self.assertIs(is_state(state), True)
            self.assertEqual(totals(state), tuple(sorted(story.totals.items())))
            for s, many in enumerate(state[2]):
                more = state[2][:s] + (many + 1,) + state[2][s + 1:]
                self.assertIs(is_state((plant, state[1], more)), is_led_to(plant, state[1], more))
                if story.can_run(s):
                    self.assertIs(is_state((plant, state[1], more)), yard.small_run(story, s))
                else:
                    self.assertIs(is_state((plant, state[1], more)), False)

    def test_any_numbers_of_cycles(self):
        maker, seen = Maker(1201), []
        yard = Yard(maker)
        for _ in range(500):
            plant = maker.plant()
            lots = tuple(yard.lot(plant) for _ in range(maker.number(0, 4)))
            cycles = tuple(maker.choice((0, maker.number(0, 3), maker.number(0, 30))) for _ in plant)
            seen.append(is_state((plant, lots, cycles)))
            self.assertIs(seen[-1], is_led_to(plant, lots, cycles))
        self.assertTrue(50 < sum(seen) < 450)

    def test_on_completion_and_before_it(self):
        self.assertEqual([is_state(((STAGE,), LOTS, (many,))) for many in (0, 1, 4, 5, 99)],
                         [True, True, True, False, False])

    def test_a_later_stage_that_ran_more_than_its_units_allow(self):
        plant = line((EACH, 0, EACH), (EACH, 1, EACH))
        lots = ((0, 5, 1),)
        self.assertIs(is_state((plant, lots, (3, 4))), True)
        self.assertIs(is_state((plant, lots, (3, 5))), False)
        self.assertIs(is_state((plant, lots, (5, 6))), True)
        self.assertIs(is_state((plant, lots, (6, 0))), False)

    def test_24_and_25_cycles_and_units(self):
        idle = line(((0, (0,) * 40, (1,)), 0, (0, (0,) * 40, (1,))))
        self.assertEqual([is_state((idle, (), (many,))) for many in (24, 25)], [True, False])
        beside = idle + ((((7, EACH, 0, False),), ((8, EACH, 1),)) + REST,)
        self.assertEqual([is_state((beside, (), (many, 0))) for many in (24, 25)], [True, False])
        plant = line(((0, (), (1, 0)), 3, (0, (0,), (4,))))
        self.assertEqual([is_state((plant, ((0, 9, 0),), (many,))) for many in (7, 8)], [True, False])
        plant = line(((0, (), (4,)), 0, EACH))
        lots = ((0, 12, 0), (0, 11, 0), (0, 1, 0))
        self.assertEqual([is_state((plant, lots + more, (0,))) for more in ((), ((0, 1, 0),))], [True, False])

    def test_no_lots(self):
        self.assertIs(is_state(((STAGE,), (), (0,))), True)
        self.assertIs(is_state(((STAGE,), (), (1,))), False)
        self.assertIs(is_state((line(((0, (), (2,)), 4, EACH)), (), (2,))), True)
        self.assertIs(is_state((line(((0, (), (2,)), 4, EACH)), (), (3,))), False)

    def test_plants_that_were_returned(self):
        plant = bill_plant((((), EACH, 3), (((0, (0, (), (2,))),), EACH, 0)))
        plant = disrupted(plant, (0,), ("extra", 0, 0, 12, 4))
        state = loaded(plant, ((0, 12, 0), (0, 9, 0)))
        self.assertEqual(state[2], (11,))
        self.assertIs(is_state(state), True)
        self.assertIs(is_state(state[:2] + ((12,),)), False)


class TotalsTest(unittest.TestCase):
    def test_all_buffers_ascending(self):
        stage = (((9, EACH, 0, False), (3, EACH, 1, False)), ((7, EACH, 1), (1, (0, (), (2,)), 1))) + REST
        lots = ((9, 2, 0), (3, 2, 0), (9, 1, 7))
        self.assertEqual(totals(((stage,), lots, (2,))), ((1, 4), (3, 2), (7, 2), (9, 3)))
        self.assertEqual(totals(((stage,), (), (0,))), ((1, 0), (3, 0), (7, 0), (9, 0)))

    def test_equal_lots(self):
        state = loaded((STAGE,), ((0, 2, 5), (0, 2, 5), (1, 3, 1), (1, 3, 1)))
        self.assertEqual(totals(state), ((0, 4), (1, 6), (2, 4)))
        self.assertEqual([record(state, 1, unit)[2] for unit in range(1, 7)], [2, 2, 2, 3, 3, 3])


if __name__ == "__main__":
    unittest.main()
