"""Point 121: references, components and records; 6 to 8 where they touch these."""

import unittest

from plantrace.errors import NoSuchUnit
from plantrace.records import record
from plantrace.states import loaded, totals
from tests.plain import Maker, Yard, sources
from tests.samples import EACH, LOTS, REST, STAGE, line

TOOL = (1, (0, (), (1, 0, 0)), 1, True)


class RecordTest(unittest.TestCase):
    def no_such_unit(self, state, buffer, unit):
        with self.assertRaises(NoSuchUnit) as caught:
            record(state, buffer, unit)
        self.assertIs(type(caught.exception), NoSuchUnit)
        self.assertEqual((caught.exception.buffer, caught.exception.unit), (buffer, unit))

    def test_examples_of_the_document(self):
        state = loaded((STAGE,), LOTS)
        self.assertEqual(record(state, 0, 3), (None, None, 2, ()))
        self.assertEqual(record(state, 2, 2), (0, 3, None, (("unit", 0, 3), ("unit", 1, 2), ("unit", 1, 3))))
        self.no_such_unit(state, 2, 5)

    def test_as_the_runs_wrote_them(self):
        maker = Maker(121)
        yard, written = Yard(maker), 0
        for _ in range(150):
            plant = maker.plant()
            state, story = yard.state(plant)
            for buffer, unit, s, n, held in story.rows:
                self.assertEqual(record(state, buffer, unit), (s, n, None, held), (state, buffer, unit))
                written += 1
            for material in sources(plant):
                lots = [lot for lot, row in enumerate(state[1]) if row[0] == material for _ in range(row[1])]
                for unit, lot in enumerate(lots, 1):
                    self.assertEqual(record(state, material, unit), (None, None, lot, ()))
            there = dict(totals(state))
            for buffer in range(20):
                self.no_such_unit(state, buffer, there.get(buffer, 0) + 1)
                self.no_such_unit(state, buffer, 99)
        self.assertGreater(written, 500)

    def test_lots_of_the_same_material_one_behind_another(self):
        state = loaded((STAGE,), ((0, 2, 3), (1, 5, 10), (0, 1, 3), (0, 2, 3)))
        self.assertEqual([record(state, 0, unit) for unit in range(1, 6)],
                         [(None, None, lot, ()) for lot in (0, 0, 2, 3, 3)])
        self.assertEqual([record(state, 1, unit)[2] for unit in (1, 5)], [1, 1])
        self.no_such_unit(state, 0, 6)
        self.no_such_unit(state, 1, 6)

    def test_before_completion(self):
        state = ((STAGE,), LOTS, (2,))
        self.assertEqual(record(state, 2, 1), (0, 2, None, (("unit", 0, 2), ("initial", 0, 1, 3), ("unit", 1, 1))))
        self.assertEqual(record(state, 0, 5), (None, None, 2, ()))
        self.no_such_unit(state, 2, 2)

    def test_initial_units_in_ascending_order_of_the_positions(self):
        state = loaded((STAGE,), LOTS)
        plant = line(((0, (), (3,)), 4, EACH))
        state = loaded(plant, ((0, 5, 1),))
        self.assertEqual(record(state, 1, 1)[3], tuple(("initial", 0, 0, position) for position in (1, 2, 3)))
        self.assertEqual(record(state, 1, 2)[3], (("initial", 0, 0, 4), ("unit", 0, 1), ("unit", 0, 2)))
        self.assertEqual(record(state, 1, 3)[3], (("unit", 0, 3), ("unit", 0, 4), ("unit", 0, 5)))

    def test_tools_in_use_before_and_behind_a_change(self):
        plant = ((((0, EACH, 0, False), TOOL), ((2, EACH, 1),)) + REST,)
        state = loaded(plant, ((0, 8, 1), (1, 5, 1)))
        tools = [record(state, 2, unit)[3][1] for unit in range(1, 9)]
        self.assertEqual(tools, [("initial", 0, 1, 1)] * 3 + [("unit", 1, 1)] * 3 + [("unit", 1, 2)] * 2)

    def test_a_tool_input_before_the_first_tool_is_taken(self):
        tool = (1, (0, (0, 0), (1, 0)), 0, True)
        plant = ((((0, EACH, 0, False), tool), ((2, EACH, 1),)) + REST,)
        state = loaded(plant, ((0, 5, 1), (1, 2, 1)))
        self.assertEqual([record(state, 2, unit)[3][1:] for unit in range(1, 6)],
                         [(), (), (("unit", 1, 1),), (("unit", 1, 1),), (("unit", 1, 2),)])

    def test_cycles_that_take_or_make_nothing(self):
        plant = line(((0, (), (1, 0)), 0, (0, (0,), (1, 0, 2))))
        state = loaded(plant, ((0, 3, 1),))
        self.assertEqual(state[2], (6,))
        self.assertEqual([record(state, 1, unit) for unit in (1, 2, 3, 4)], [
            (0, 2, None, ()), (0, 4, None, ()), (0, 4, None, ()), (0, 5, None, (("unit", 0, 3),))])
        self.no_such_unit(state, 1, 5)

    def test_several_outputs(self):
        plant = ((((0, (0, (), (2,)), 1, False),), ((4, EACH, 1), (3, (0, (), (0, 2)), 1))) + REST,)
        state = loaded(plant, ((0, 3, 1),))
        held = ("unit", 0, 2), ("unit", 0, 3)
        for buffer, unit in ((4, 2), (3, 1), (3, 2)):
            self.assertEqual(record(state, buffer, unit), (0, 2, None, held))
        self.no_such_unit(state, 3, 3)

    def test_buffers_that_the_plant_does_not_have(self):
        state = loaded((STAGE,), LOTS)
        for buffer in (3, 19):
            self.no_such_unit(state, buffer, 1)

    def test_a_state_without_lots(self):
        for buffer in (0, 1, 2):
            self.no_such_unit(((STAGE,), (), (0,)), buffer, 1)


if __name__ == "__main__":
    unittest.main()
