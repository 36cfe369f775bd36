"""Points 200 to 204: recalls, suspects, worst cases, the least scenario, explanations; 6 to 8 for these."""

import time
import unittest

from plantrace.diagnosis import explanations, least_scenario, recall, suspects, worst_cases
from plantrace.errors import NoSuchUnit
from plantrace.faults import causes, defective_units, is_consistent, is_scenario
from plantrace.states import loaded
from tests.plain import Maker, Yard, ranges
from tests.plain_faults import EXONERATING, Known, shop_state
from tests.samples import EACH, REST, SHOP

SMALL = loaded(SHOP, ((0, 6, 10), (1, 2, 7)))
SEEN = (("defective", 3, 1), ("intact", 0, 1, 1))


class Plain:
    """What is asked of a state, worked out by walking every scenario one by one."""

    def __init__(self, history, observations, most):
        self.history, self.observations = history, observations
        self.found = [scenario for scenario in history.scenarios(most) if history.fits(scenario, observations)]

    def recall(self):
        defective = [self.history.defective(scenario) for scenario in self.found]
        may = set().union(*defective)
        must = set.intersection(*defective) if defective else set()
        products = self.history.products()
        return tuple(
            tuple((product, ranges(unit[2] for unit in units if unit[1] == product)) for product in products)
            for units in (may, must)
        )

    def suspects(self):
        rows = []
        for cause in self.history.causes():
            breaks = [[fault for fault in scenario if fault[:4] == cause[:4]] for scenario in self.found]
            if any(breaks):
                cycles = [fault[4] for faults in breaks for fault in faults if fault[0] == "tool"]
                rows.append(cause[:4] + ((min(cycles), max(cycles)) if cycles else ()) + (all(breaks),))
        return tuple(rows)


def first_fitting(history, observations, most, unit=None):
    """The first scenario of worst cases of at most so many faults that fits, and makes the unit defective if told."""
    for scenario in history.scenarios(most, history.worst_cases(observations)):
        if history.fits(scenario, observations) and (unit is None or unit in history.defective(scenario)):
            return scenario
    return None


def told(maker, history):
    """At most 4 valid observations, in any order, often ones that fit with some scenario."""
    faults, seen = history.faults(), history.observations()
    some = maker.random.sample(faults, min(6, len(faults)))
    scenario = maker.choice(list(history.scenarios(maker.choice((1, 2, 3)), some)))
    if maker.number(0, 3):
        seen = [observation for observation in seen if history.is_consistent(scenario, observation)]
    if maker.number(0, 2) == 0:
        seen = [observation for observation in seen if observation[0] not in EXONERATING] or seen
    found = [maker.choice(seen) for _ in range(maker.choice((0, 1, 1, 2, 3, 4)))]
    return tuple(maker.choice((found, found[:2] * 2)))


class ExamplesTest(unittest.TestCase):
    def test_examples_of_the_document(self):
        self.assertEqual(worst_cases(SMALL, SEEN), (("lot", 0), ("lot", 1), ("tool", 0, 1, 1, 2), ("tool", 0, 1, 2, 3)))
        self.assertEqual(least_scenario(SMALL, SEEN), (("lot", 0),))
        self.assertEqual(explanations(SMALL, SEEN, 3, 2), ((("lot", 0),), None))
        broken = (("broken", 0, 1, 2),)
        self.assertEqual(explanations(SMALL, broken, 3, 1), ((("tool", 0, 1, 1, 1),), (("tool", 0, 1, 1, 2),)))
        self.assertEqual(recall(SMALL, broken), (((3, ((1, 2),)),), ((3, ((2, 2),)),)))

    def test_the_first_example_of_the_document(self):
        seen = (("defective", 3, 1),)
        self.assertEqual(suspects(SMALL, seen, most=1), (
            ("lot", 0, False), ("lot", 1, False), ("tool", 0, 1, 1, 1, 1, False)))
        self.assertEqual(recall(SMALL, seen, most=1), (((3, ((1, 2),)),), ((3, ((1, 2),)),)))


class EveryScenarioTest(unittest.TestCase):
    """Against every scenario of small states, walked one by one."""

    def cases(self, seed, many, most_faults):
        maker = Maker(seed)
        yard = Yard(maker)
        for _ in range(many):
            state, history = shop_state(maker, yard, 3, most_faults)
            yield maker, state, history, told(maker, history)

    def test_recall_and_suspects(self):
        empty, certain = 0, set()
        for _, state, history, seen in self.cases(200, 220, 22):
            for most in (0, 1, 2):
                plain = Plain(history, seen, most)
                self.assertEqual(recall(state, seen, most=most), plain.recall())
                self.assertEqual(suspects(state, seen, most=most), plain.suspects())
                empty += not plain.found
                certain.update(row[-1] for row in plain.suspects())
            self.assertEqual(recall(state, seen), recall(state, seen, most=1))
            self.assertEqual(suspects(state, seen), suspects(state, seen, most=1))
        self.assertGreater(empty, 50)
        self.assertEqual(certain, {True, False})

    def test_worst_cases_and_the_least_scenario(self):
        sizes = set()
        for _, state, history, seen in self.cases(202, 300, 40):
            self.assertEqual(worst_cases(state, seen), history.worst_cases(seen))
            least = least_scenario(state, seen)
            self.assertEqual(least, first_fitting(history, seen, 3))
            sizes.add(None if least is None else len(least))
            self.assertTrue(least is None or is_scenario(state, least))
        self.assertEqual(sizes, {None, 0, 1, 2, 3})

    def test_explanations(self):
        found = set()
        for maker, state, history, seen in self.cases(204, 300, 40):
            unit = maker.choice(sorted(history.contents))
            for most in (0, 1, 2):
                defective = first_fitting(history, seen, most, unit)
                sound = first_fitting(history, seen + (("sound",) + unit[1:],), most)
                self.assertEqual(explanations(state, seen, *unit[1:], most=most), (defective, sound))
                found.add((defective is None, sound is None))
                if most == 1:
                    self.assertEqual(explanations(state, seen, *unit[1:]), (defective, sound))
        self.assertEqual(len(found), 4)

    def test_explanations_tell_what_is_recalled(self):
        for _, state, history, seen in self.cases(2040, 100, 22):
            plain = Plain(history, seen, 2)
            defective = [history.defective(scenario) for scenario in plain.found]
            for unit in history.contents:
                pair = explanations(state, seen, *unit[1:], most=2)
                self.assertIs(pair[0] is not None, any(unit in units for units in defective))
                must = bool(defective) and all(unit in units for units in defective)
                self.assertIs(bool(defective) and pair[1] is None, must)


class RecallTest(unittest.TestCase):
    def test_no_observations(self):
        self.assertEqual(recall(SMALL, (), most=0), (((3, ()),), ((3, ()),)))
        self.assertEqual(recall(SMALL, ()), (((3, ((1, 2),)),), ((3, ()),)))
        self.assertEqual((suspects(SMALL, (), most=0), least_scenario(SMALL, ())), ((), ()))

    def test_no_consistent_scenario(self):
        for seen, most in (((("good", 0), ("bad", 0)), 2), ((("defective", 3, 1),), 0),
                           ((("broken", 0, 1, 1), ("broken", 0, 1, 3)), 1)):
            self.assertEqual(recall(SMALL, seen, most=most), (((3, ()),), ((3, ()),)))
            self.assertEqual(suspects(SMALL, seen, most=most), ())
            self.assertEqual(explanations(SMALL, seen, 3, 1, most=most), (None, None))

    def test_the_least_scenario_does_not_ask_for_most(self):
        three = (("broken", 0, 1, 1), ("broken", 0, 1, 3), ("bad", 0))
        self.assertEqual(least_scenario(SMALL, three), (("lot", 0), ("tool", 0, 1, 1, 1), ("tool", 0, 1, 2, 3)))
        self.assertIsNone(least_scenario(SMALL, three + (("bad", 1),)))
        self.assertEqual(explanations(SMALL, three, 3, 1, most=2), (None, None))

    def test_contradictions_and_repetitions(self):
        once = (("defective", 3, 1), ("intact", 0, 1, 1))
        for most in (0, 1, 2):
            self.assertEqual(recall(SMALL, once[::-1] + once, most=most), recall(SMALL, once, most=most))
            self.assertEqual(suspects(SMALL, once * 2, most=most), suspects(SMALL, once, most=most))
        self.assertIsNone(least_scenario(SMALL, (("intact", 0, 1, 2), ("broken", 0, 1, 1))))
        self.assertIsNone(least_scenario(SMALL, (("sound", 3, 1), ("defective", 3, 1))))

    def test_certain_suspects(self):
        seen = (("broken", 0, 1, 2), ("bad", 1))
        self.assertEqual(suspects(SMALL, seen, most=2), (("lot", 1, True), ("tool", 0, 1, 1, 1, 2, True)))
        self.assertEqual(suspects(SMALL, (("broken", 0, 1, 2),), most=2)[:2], (("lot", 0, False), ("lot", 1, False)))

    def test_several_products_and_products_without_units(self):
        plant = ((((0, EACH, 0, False),), ((7, EACH, 1), (3, (0, (0, 0, 0), (1,)), 1), (5, EACH, 1))) + REST,
                 (((7, (0, (), (2,)), 0, False), (9, EACH, 0, True)), ((1, EACH, 1),)) + REST)
        state = loaded(plant, ((0, 2, 1), (0, 1, 1)))
        self.assertEqual(recall(state, (("bad", 0),)), (
            ((1, ()), (3, ()), (5, ((1, 2),))), ((1, ()), (3, ()), (5, ((1, 2),)))))
        self.assertEqual(recall(state, (("bad", 0),), most=2), (
            ((1, ()), (3, ()), (5, ((1, 3),))), ((1, ()), (3, ()), (5, ((1, 2),)))))

    def test_a_state_without_lots_and_cycles(self):
        state = (SHOP, (), (0, 0))
        self.assertEqual((recall(state, ()), suspects(state, (), most=2), worst_cases(state, ())),
                         ((((3, ()),), ((3, ()),)), (), ()))

    def test_equal_lots(self):
        state = loaded(SHOP, ((0, 2, 5), (0, 2, 5), (1, 2, 1)))
        self.assertEqual(recall(state, (("bad", 1),)), (((3, ()),), ((3, ()),)))
        self.assertEqual(recall(state, (("bad", 0),)), (((3, ((1, 1),)),), ((3, ((1, 1),)),)))

    def test_a_unit_that_does_not_exist(self):
        for seen in ((), SEEN, (("good", 0), ("bad", 0))):
            for buffer, unit in ((3, 3), (19, 1), (0, 7)):
                with self.assertRaises(NoSuchUnit) as caught:
                    explanations(SMALL, seen, buffer, unit)
                self.assertIs(type(caught.exception), NoSuchUnit)
                self.assertEqual((caught.exception.buffer, caught.exception.unit), (buffer, unit))


class WorstCasesTest(unittest.TestCase):
    def test_ruled_out(self):
        self.assertEqual(worst_cases(SMALL, (("good", 1), ("intact", 0, 1, 2))), (("lot", 0), ("tool", 0, 1, 2, 3)))
        self.assertEqual(worst_cases(SMALL, (("sound", 3, 1),)), (("tool", 0, 1, 1, 2), ("tool", 0, 1, 2, 3)))
        self.assertEqual(worst_cases(SMALL, (("sound", 3, 2), ("good", 1))), ())

    def test_incriminating_observations_rule_nothing_out(self):
        everything = (("lot", 0), ("lot", 1), ("tool", 0, 1, 1, 1), ("tool", 0, 1, 2, 3))
        for seen in ((), (("defective", 3, 1),), (("broken", 0, 1, 2), ("bad", 1))):
            self.assertEqual(worst_cases(SMALL, seen), everything)

    def test_the_earliest_break_that_is_left(self):
        plant = ((((0, EACH, 4, False), (1, (0, (), (1, 0, 0, 0)), 1, True)), ((2, EACH, 1),)) + REST,)
        state = loaded(plant, ())
        told = [worst_cases(state, (("intact", 0, 1, cycle),)) for cycle in (1, 2, 3, 4)]
        self.assertEqual(told, [(("tool", 0, 1, 1, begin),) for begin in (2, 3, 4)] + [()])

    def test_fewer_faults_first_then_the_order_of_causes(self):
        self.assertEqual(least_scenario(SMALL, (("broken", 0, 1, 3), ("broken", 0, 1, 1))),
                         (("tool", 0, 1, 1, 1), ("tool", 0, 1, 2, 3)))
        self.assertEqual(least_scenario(SMALL, (("defective", 2, 3), ("broken", 0, 1, 1))),
                         (("lot", 0), ("tool", 0, 1, 1, 1)))
        self.assertEqual(least_scenario(SMALL, (("defective", 2, 3), ("broken", 0, 1, 1), ("good", 0), ("good", 1))),
                         (("tool", 0, 1, 1, 1), ("tool", 0, 1, 2, 3)))

    def test_returned_scenarios_and_observations(self):
        state = loaded(SHOP, ((0, 12, 5), (0, 12, 5), (1, 6, 2)))
        scenario = worst_cases(state, ())
        self.assertEqual((len(scenario), len(causes(state))), (9, 9))
        self.assertEqual(defective_units(state, scenario)[-1], (3, ((1, 6),)))
        self.assertIs(is_consistent(state, scenario, SEEN[0]), True)


class ManyFaultsTest(unittest.TestCase):
    """Many possible faults are an ordinary input: each question takes a moment at most."""

    def plant(self, tool):
        """Four stages that stand alone, each with three tools, the first of them made by the stage before."""
        def feeds(s):
            return ((12 + s if s else 0, tool, 4, True), (2 * s + 1, tool, 4, True), (2 * s + 2, tool, 4, True))
        return tuple((feeds(s), ((13 + s, EACH, 1),)) + REST for s in range(4))

    def questions(self, state, seen, most, unit):
        begin = time.process_time()
        answers = recall(state, seen, most=most), suspects(state, seen, most=most)
        least_scenario(state, seen)
        explanations(state, seen, *unit, most=most)
        self.assertLess(time.process_time() - begin, 3)
        return answers

    def test_288_possible_faults_and_one_that_is_asked(self):
        state = loaded(self.plant((0, (), (1, 0, 0, 0, 0, 0))), ())
        history = Known(state)
        self.assertEqual((len(history.faults()), state[2]), (288, (24, 24, 24, 24)))
        for seen in ((), (("defective", 16, 20),), (("broken", 0, 2, 20), ("defective", 16, 24), ("intact", 0, 2, 15)),
                     (("sound", 16, 20), ("sound", 14, 3), ("good", 0))[:2]):
            plain = Plain(history, seen, 1)
            self.assertEqual(self.questions(state, seen, 1, (16, 3)), (plain.recall(), plain.suspects()))

    def test_40_possible_faults_of_16_causes_and_two_that_are_asked(self):
        tool = (0, (), (1, 0, 0))
        feeds = ((0, EACH, 4, False), (1, tool, 2, True), (2, tool, 3, True), (3, tool, 4, True))
        plant = ((feeds[:3], ((5, EACH, 1),)) + REST, (((5, EACH, 0, False), feeds[3]), ((6, EACH, 1),)) + REST)
        state = loaded(plant, ((0, 4, 3), (0, 4, 3), (1, 2, 2), (2, 1, 1)))
        history = Known(state)
        self.assertEqual((state[2], len(history.causes()), len(history.faults())), ((12, 12), 16, 40))
        for seen in ((), (("defective", 6, 2),), (("defective", 6, 2), ("defective", 6, 12), ("sound", 6, 5)),
                     (("broken", 0, 1, 5), ("defective", 6, 9)), (("bad", 0), ("bad", 2), ("defective", 6, 1))):
            plain = Plain(history, seen, 2)
            self.assertEqual(self.questions(state, seen, 2, (6, 7)), (plain.recall(), plain.suspects()))
            least = first_fitting(history, seen, 3)
            self.assertEqual(least_scenario(state, seen), least)


if __name__ == "__main__":
    unittest.main()
