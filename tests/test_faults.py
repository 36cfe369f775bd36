"""Points 180 to 183: faults, causes, scenarios, defective units, observations; 6 to 8 where they touch these."""

import itertools
import unittest

from plantrace.diagnosis import least_scenario, worst_cases
from plantrace.disruptions import disrupted
from plantrace.errors import NoSuchUnit
from plantrace.faults import (
    causes, defective_units, each_scenario, is_consistent, is_defective, is_possible, is_scenario, is_valid,
)
from plantrace.states import loaded
from tests.plain import Maker, Yard
from tests.plain_faults import Known, ranges_by_buffer, shop_state
from tests.samples import EACH, REST, SHOP, line

SMALL = loaded(SHOP, ((0, 6, 10), (1, 2, 7)))
WORDS = ("sound", "defective", "intact", "broken", "good", "bad")


def any_fault(maker, high):
    if maker.number(0, 2) == 0:
        return "lot", maker.number(0, high)
    return "tool", maker.number(0, high), maker.number(0, high), maker.number(1, 6), maker.number(1, 12)


def any_observation(maker):
    word = maker.choice(WORDS)
    if word in ("sound", "defective"):
        return word, maker.number(0, 19), maker.choice((maker.number(1, 8), maker.number(1, 99)))
    if word in ("good", "bad"):
        return word, maker.number(0, 9)
    high = maker.choice((1, 9))
    return word, maker.number(0, high), maker.number(0, high), maker.choice((maker.number(1, 8), maker.number(1, 99)))


def any_scenario(maker, history, most=4):
    """Some possible faults with different causes, in any order."""
    faults = history.faults()
    maker.random.shuffle(faults)
    found = {fault[:4]: fault for fault in faults[:maker.number(0, most)]}
    return tuple(found.values())


class CausesTest(unittest.TestCase):
    def test_examples_of_the_document(self):
        self.assertEqual(SMALL, (SHOP, ((0, 6, 10), (1, 2, 7)), (3, 2)))
        self.assertEqual(causes(SMALL), (("lot", 0), ("lot", 1), ("tool", 0, 1, 1, 1, 2), ("tool", 0, 1, 2, 3, 3)))
        self.assertEqual((is_possible(SMALL, ("tool", 0, 1, 2, 3)), is_possible(SMALL, ("tool", 0, 1, 2, 4))),
            (True, False))

    def test_cause_by_cause(self):
        maker = Maker(180)
        yard = Yard(maker)
        for _ in range(120):
            state, history = shop_state(maker, yard, 1, 200)
            self.assertEqual(causes(state), history.causes())
            faults = history.faults()
            for fault in faults:
                self.assertIs(is_possible(state, fault), True)
            for _ in range(30):
                fault = any_fault(maker, maker.choice((2, 9)))
                self.assertIs(is_possible(state, fault), fault in faults)
            for _ in range(20):
                scenario = tuple(maker.choice((maker.choice(faults), maker.choice(faults), any_fault(maker, 2)))
                                 for _ in range(maker.number(0, 4)))
                fits = all(fault in faults for fault in scenario)
                fits = fits and len({fault[:4] for fault in scenario}) == len(scenario)
                self.assertIs(is_scenario(state, scenario), fits)

    def test_a_state_without_cycles_and_without_lots(self):
        self.assertEqual((causes((SHOP, (), (0, 0))), causes((SHOP, ((0, 6, 1),), (0, 0)))), ((), (("lot", 0),)))
        self.assertEqual(list(each_scenario((SHOP, (), (0, 0)), 2)), [()])
        self.assertIs(is_scenario((SHOP, (), (0, 0)), ()), True)

    def test_tools_that_are_in_use_up_to_the_last_cycle(self):
        self.assertEqual(causes((SHOP, SMALL[1], (1, 0)))[2:], (("tool", 0, 1, 1, 1, 1),))
        self.assertEqual(causes((SHOP, SMALL[1], (2, 1)))[2:], (("tool", 0, 1, 1, 1, 2),))
        self.assertIs(is_possible((SHOP, SMALL[1], (1, 0)), ("tool", 0, 1, 1, 2)), False)

    def test_initial_tools_and_tools_taken_late(self):
        plant = ((((0, EACH, 4, False), (1, (0, (0, 1, 0), (1,)), 2, True)), ((2, EACH, 1),)) + REST,)
        self.assertEqual(causes(loaded(plant, ((1, 1, 3),))),
            (("lot", 0), ("tool", 0, 1, 1, 2, 3), ("tool", 0, 1, 2, 4, 4)))
        self.assertEqual(is_possible(loaded(plant, ()), ("tool", 0, 1, 1, 1)), False)

    def test_what_is_not_there(self):
        for fault in (("lot", 2), ("lot", 9), ("tool", 2, 1, 1, 1), ("tool", 9, 0, 1, 1), ("tool", 0, 2, 1, 1),
                      ("tool", 0, 9, 1, 1), ("tool", 0, 0, 1, 1), ("tool", 1, 0, 1, 1), ("tool", 0, 1, 3, 3),
                      ("tool", 0, 1, 1, 3), ("tool", 0, 1, 2, 2), ("tool", 0, 1, 2, 99), ("tool", 0, 1, 99, 1)):
            self.assertIs(is_possible(SMALL, fault), False, fault)
            self.assertIs(is_scenario(SMALL, (("lot", 0), fault)), False)

    def test_two_faults_with_one_cause(self):
        first, later, other = ("tool", 0, 1, 1, 1), ("tool", 0, 1, 1, 2), ("tool", 0, 1, 2, 3)
        self.assertIs(is_scenario(SMALL, (first, later)), False)
        self.assertIs(is_scenario(SMALL, (("lot", 1), ("lot", 1))), False)
        self.assertIs(is_scenario(SMALL, (other, ("lot", 1), later, ("lot", 0))), True)


class DefectiveTest(unittest.TestCase):
    def test_example_of_the_document(self):
        self.assertEqual(defective_units(SMALL, (("tool", 0, 1, 1, 2),)), ((2, ((2, 2),)), (3, ((2, 2),))))

    def test_component_by_component(self):
        maker = Maker(181)
        yard = Yard(maker)
        for _ in range(120):
            state, history = shop_state(maker, yard, 1, 200)
            for _ in range(4):
                scenario = any_scenario(maker, history)
                wanted = history.defective(scenario)
                self.assertEqual(defective_units(state, scenario), ranges_by_buffer(wanted))
                for unit in maker.random.sample(sorted(history.contents), min(4, len(history.contents))):
                    self.assertIs(is_defective(state, scenario, *unit[1:]), unit in wanted)

    def test_any_order_of_the_faults(self):
        scenario = (("lot", 1), ("tool", 0, 1, 1, 2), ("lot", 0))
        wanted = defective_units(SMALL, scenario)
        for other in itertools.permutations(scenario):
            self.assertEqual(defective_units(SMALL, other), wanted)

    def test_no_faults(self):
        self.assertEqual(defective_units(SMALL, ()), ())
        self.assertIs(is_defective(SMALL, (), 3, 1), False)

    def test_a_lot_affects_its_own_units(self):
        self.assertEqual(defective_units((SHOP, SMALL[1], (0, 0)), (("lot", 1),)), ((1, ((1, 2),)),))
        self.assertEqual(defective_units(SMALL, (("lot", 1),)), ((1, ((1, 2),)), (2, ((1, 3),)), (3, ((1, 2),))))

    def test_equal_lots_are_two(self):
        state = loaded(SHOP, ((0, 2, 5), (0, 2, 5), (1, 4, 1)))
        self.assertEqual([defective_units(state, (("lot", lot),)) for lot in (0, 1)], [
            ((0, ((1, 2),)), (2, ((1, 1),)), (3, ((1, 1),))), ((0, ((3, 4),)), (2, ((2, 2),)))])

    def test_a_tool_is_broken_until_the_next_one_is_taken(self):
        plant = ((((0, EACH, 0, False), (1, (0, (), (1, 0, 0)), 1, True)), ((2, (0, (), (1, 2)), 1),)) + REST,)
        state = loaded(plant, ((0, 5, 1), (1, 1, 1)))
        self.assertEqual([defective_units(state, (("tool", 0, 1, 1, cycle),)) for cycle in (1, 2, 3)], [
            ((2, ((1, 4),)),), ((2, ((2, 4),)),), ((2, ((4, 4),)),)])
        self.assertEqual(defective_units(state, (("tool", 0, 1, 2, 5),)), ((2, ((7, 7),)),))

    def test_a_cycle_that_made_nothing(self):
        plant = ((((0, EACH, 0, False), (1, EACH, 4, True)), ((2, (0, (0,), (1,)), 1),)) + REST,)
        self.assertEqual(defective_units(loaded(plant, ((0, 2, 1),)), (("tool", 0, 1, 1, 1),)), ())

    def test_a_unit_that_does_not_exist(self):
        for buffer, unit in ((3, 3), (19, 1), (0, 7), (2, 99)):
            with self.assertRaises(NoSuchUnit) as caught:
                is_defective(SMALL, (("lot", 0),), buffer, unit)
            self.assertIs(type(caught.exception), NoSuchUnit)
            self.assertEqual((caught.exception.buffer, caught.exception.unit), (buffer, unit))


class ObservationsTest(unittest.TestCase):
    def test_any_observations(self):
        maker, seen = Maker(182), set()
        yard = Yard(maker)
        for _ in range(80):
            state, history = shop_state(maker, yard, 1, 200)
            for observation in history.observations():
                self.assertIs(is_valid(state, observation), True)
            for _ in range(40):
                observation = any_observation(maker)
                seen.add((observation[0], history.is_valid(observation)))
                self.assertIs(is_valid(state, observation), history.is_valid(observation), observation)
        self.assertEqual(len(seen), 12)

    def test_consistent_with_each_one(self):
        maker, seen = Maker(1820), set()
        yard = Yard(maker)
        for _ in range(80):
            state, history = shop_state(maker, yard, 1, 200)
            told = history.observations()
            for _ in range(20):
                scenario, observation = any_scenario(maker, history), maker.choice(told)
                wanted = history.is_consistent(scenario, observation)
                seen.add((observation[0], wanted))
                self.assertIs(is_consistent(state, scenario, observation), wanted)
        self.assertEqual(len(seen), 12)

    def test_what_is_not_there(self):
        for place in ((2, 1, 1), (9, 0, 1), (0, 2, 1), (0, 9, 1), (0, 0, 1), (1, 0, 1), (0, 1, 4), (0, 1, 99)):
            for word in ("intact", "broken"):
                self.assertIs(is_valid(SMALL, (word,) + place), False, place)
        for what in (("sound", 3, 3), ("defective", 19, 1), ("sound", 4, 1), ("good", 2), ("bad", 9)):
            self.assertIs(is_valid(SMALL, what), False, what)
        for what in (("sound", 3, 2), ("defective", 0, 6), ("good", 1), ("bad", 0), ("intact", 0, 1, 3)):
            self.assertIs(is_valid(SMALL, what), True, what)

    def test_no_tool_in_use_yet(self):
        plant = ((((0, EACH, 4, False), (1, (0, (0, 1, 0), (1,)), 2, True)), ((2, EACH, 1),)) + REST,)
        state = loaded(plant, ())
        self.assertEqual([is_valid(state, ("intact", 0, 1, cycle)) for cycle in (1, 2, 3, 4, 5)],
            [False, True, True, True, False])

    def test_breaks_at_earlier_at_the_same_and_at_later_cycles(self):
        plant = ((((0, EACH, 4, False), (1, (0, (), (1, 0, 0, 0)), 1, True)), ((2, EACH, 1),)) + REST,)
        state = loaded(plant, ())
        told = [is_consistent(state, (("tool", 0, 1, 1, begin),), ("broken", 0, 1, 2)) for begin in (1, 2, 3, 4)]
        self.assertEqual(told, [True, True, False, False])
        told = [is_consistent(state, (("tool", 0, 1, 1, begin),), ("intact", 0, 1, 2)) for begin in (1, 2, 3, 4)]
        self.assertEqual(told, [False, False, True, True])

    def test_another_tool_that_broke_earlier(self):
        scenario = (("tool", 0, 1, 1, 1),)
        self.assertIs(is_consistent(SMALL, scenario, ("intact", 0, 1, 3)), True)
        self.assertIs(is_consistent(SMALL, scenario, ("broken", 0, 1, 3)), False)


class EachScenarioTest(unittest.TestCase):
    def test_examples_of_the_document(self):
        self.assertEqual(list(each_scenario(SMALL, 1))[:4], [(), (("lot", 0),), (("lot", 1),), (("tool", 0, 1, 1, 1),)])
        self.assertEqual(len(list(each_scenario(SMALL, 2))), 15)

    def test_one_by_one(self):
        maker = Maker(183)
        yard = Yard(maker)
        for _ in range(60):
            state, history = shop_state(maker, yard, 1, 25)
            for most in (0, 1, 2):
                wanted = list(history.scenarios(most))
                self.assertEqual(list(each_scenario(state, most)), wanted)
                self.assertTrue(all(is_scenario(state, scenario) for scenario in wanted))
        self.assertEqual(list(each_scenario(SMALL, 3)), list(Known(SMALL).scenarios(3)))

    def test_left_in_the_middle_and_two_at_once(self):
        one, two = each_scenario(SMALL, 2), each_scenario(SMALL, 2)
        self.assertIs(iter(one), one)
        wanted = list(each_scenario(SMALL, 2))
        self.assertEqual([next(one) for _ in range(7)], wanted[:7])
        self.assertEqual(next(two), ())
        self.assertEqual([pair for pair in zip(one, two)], list(zip(wanted[7:], wanted[1:])))
        left = each_scenario(SMALL, 2)
        next(left)
        left.close()
        self.assertEqual(list(each_scenario(SMALL, 2)), wanted)

    def test_two_states_at_once(self):
        other = loaded(SHOP, ((0, 2, 10), (1, 1, 7)))
        one, two = each_scenario(SMALL, 1), each_scenario(other, 1)
        self.assertEqual([(next(one), next(two)) for _ in range(4)],
                         [((), ()), ((("lot", 0),),) * 2, ((("lot", 1),),) * 2, ((("tool", 0, 1, 1, 1),),) * 2])
        self.assertEqual((list(one), list(two)), ([(("tool", 0, 1, 1, 2),), (("tool", 0, 1, 2, 3),)], []))


class OrderAndPassingOnTest(unittest.TestCase):
    def test_lots_stand_before_tools_and_tools_by_stage_input_and_position(self):
        tool = (0, (), (1, 0))
        first = (((0, EACH, 4, False), (9, tool, 1, True), (1, tool, 2, True)), ((3, EACH, 1),)) + REST
        second = (((4, tool, 3, True), (3, (0, (), (2,)), 0, False)), ((5, EACH, 1),)) + REST
        state = loaded((first, second), ((9, 2, 1), (0, 1, 1)))
        self.assertEqual(causes(state), (
            ("lot", 0), ("lot", 1), ("tool", 0, 1, 1, 1, 2), ("tool", 0, 1, 2, 3, 4), ("tool", 0, 2, 1, 1, 2),
            ("tool", 0, 2, 2, 3, 4), ("tool", 1, 0, 1, 1, 2)))

    def test_returned_faults_scenarios_states_and_plants(self):
        changed = disrupted(SHOP, (0, 0), ("extra", 0, 1, 10, 1))
        state = loaded(changed, ((0, 12, 5), (0, 12, 5), (1, 6, 2)))
        history = Known(state)
        self.assertEqual((causes(state), state[2]), (history.causes(), (10, 5)))
        self.assertEqual(causes(state)[-1], ("tool", 0, 1, 6, 10, 10))
        for scenario in each_scenario(state, 2):
            self.assertIs(is_scenario(state, scenario), True)
            self.assertEqual(defective_units(state, scenario), ranges_by_buffer(history.defective(scenario)))
        scenario = worst_cases(state, (("defective", 3, 1),))
        self.assertIs(is_scenario(state, scenario), True)
        self.assertEqual(len(scenario), 9)
        self.assertEqual(defective_units(state, scenario), ranges_by_buffer(history.defective(scenario)))
        self.assertIs(is_consistent(state, least_scenario(state, (("broken", 0, 1, 10),)), ("broken", 0, 1, 10)), True)

    def test_arguments_stay_as_they_are(self):
        plant = line((EACH, 1, EACH))
        state = (plant, ((0, 3, 4),), (2,))
        defective_units(state, (("lot", 0),))
        self.assertEqual(state, (line((EACH, 1, EACH)), ((0, 3, 4),), (2,)))


if __name__ == "__main__":
    unittest.main()
