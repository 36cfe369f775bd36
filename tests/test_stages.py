"""Points 60, 61 and 63 to 65: what cycles take, hold and produce, and what units support."""

import unittest

from plantrace.inverses import lower_inverse, upper_inverse
from plantrace.stages import held, produced, producing_cycle, supported, supports, taken, use
from tests.plain import Maker, longer, step

LONG = lower_inverse((0, (), (20, 19, 18, 17)))
DRILLS = (1, (0, (), (1, 0)), 0, True)


def numbers_by_cycle(flow, cycles):
    """For each of the first cycles the numbers by which the flow rises in it, one by one."""
    found, last = [], 0
    for n in range(cycles):
        found.append(list(range(last + 1, last + step(flow, n) + 1)))
        last += len(found[-1])
    return found


def ends(numbers):
    """The first and the last one of some numbers, None if there are none."""
    return (numbers[0], numbers[-1]) if numbers else None


def held_by_cycle(feed, cycles):
    """For each of the first cycles the positions that it holds."""
    _, consumption, _, tool = feed
    rows = numbers_by_cycle(consumption, cycles)
    if not tool:
        return [tuple(row) for row in rows]
    found, in_use = [], ()
    for row in rows:
        in_use = (row[-1],) if row else in_use
        found.append(in_use)
    return found


def plain_supports(feed, total):
    """The number of cycles for which the units are enough, run one by one."""
    _, consumption, stock, _ = feed
    n, left = 0, total + stock
    while step(consumption, n) <= left:
        left -= step(consumption, n)
        n += 1
    return n


class ExampleTest(unittest.TestCase):
    def test_examples_of_the_document(self):
        self.assertEqual((taken(DRILLS, 3), taken(DRILLS, 4), held(DRILLS, 4)), ((2, 2), None, (2,)))
        self.assertEqual((use(DRILLS, 2), supports(DRILLS, 2)), ((3, 4), 4))
        self.assertEqual(produced((2, (0, (0,), (1, 2)), 1), 3), (2, 3))


class OutputTest(unittest.TestCase):
    def agree(self, output):
        rows = numbers_by_cycle(output[1], 99)
        for cycle, row in enumerate(rows, start=1):
            self.assertEqual(produced(output, cycle), ends(row), (output, cycle))
        makers = {unit: cycle for cycle, row in enumerate(rows, start=1) for unit in row}
        for unit in range(1, min(99, max(makers)) + 1):
            self.assertEqual(producing_cycle(output, unit), makers[unit], (output, unit))

    def test_cycle_by_cycle(self):
        maker = Maker(63)
        for _ in range(150):
            self.agree((3, maker.flow(), 1))

    def test_cycles_that_produce_nothing(self):
        output = (3, (0, (0, 0), (0, 3)), 1)
        self.assertEqual([produced(output, cycle) for cycle in (1, 2, 3, 4, 5, 6)], [None, None, None, (1, 3), None, (4, 6)])
        self.assertEqual([producing_cycle(output, unit) for unit in (1, 3, 4, 99)], [4, 4, 6, 68])
        self.agree(output)

    def test_long_curves(self):
        for flow in (LONG, upper_inverse((0, (2,), (7, 9, 20))), longer((0, (1,), (0, 2)), 3, 4)):
            self.agree((7, flow, 0))


class InputTest(unittest.TestCase):
    def agree(self, feed):
        rows, holds = numbers_by_cycle(feed[1], 99), held_by_cycle(feed, 450)
        for cycle, row in enumerate(rows, start=1):
            self.assertEqual(taken(feed, cycle), ends(row), (feed, cycle))
            self.assertEqual(held(feed, cycle), holds[cycle - 1], (feed, cycle))
        for position in range(1, 100):
            cycles = [cycle for cycle, row in enumerate(holds, start=1) if position in row]
            if cycles and cycles[-1] < 450:
                self.assertEqual(use(feed, position), (cycles[0], cycles[-1]), (feed, position))

    def test_cycle_by_cycle(self):
        maker = Maker(64)
        for _ in range(120):
            self.agree(maker.feed(5))

    def test_before_the_first_tool_is_taken(self):
        feed = (0, (0, (0, 0, 1), (0, 1)), 2, True)
        self.assertEqual([held(feed, cycle) for cycle in (1, 2, 3, 4, 5)], [(), (), (1,), (1,), (2,)])
        self.assertEqual((use(feed, 1), use(feed, 2)), ((3, 4), (5, 6)))
        self.agree(feed)

    def test_the_same_units_as_tools_or_not(self):
        flow = (0, (1, 0, 0), (0, 1))
        for cycle in (2, 3, 4):
            self.assertEqual((held((0, flow, 0, False), cycle), held((0, flow, 0, True), cycle)), ((), (1,)))
        self.assertEqual((use((0, flow, 0, False), 1), use((0, flow, 0, True), 1)), ((1, 1), (1, 4)))

    def test_several_units_at_once(self):
        feed = (0, (0, (4,), (0, 3)), 1, False)
        self.assertEqual((held(feed, 1), held(feed, 2), held(feed, 3)), ((1, 2, 3, 4), (), (5, 6, 7)))
        self.assertEqual((taken(feed, 1), taken(feed, 2), taken(feed, 3)), ((1, 4), None, (5, 7)))
        self.assertEqual((use(feed, 4), use(feed, 5)), ((1, 1), (3, 3)))

    def test_stock_does_not_change_the_positions(self):
        for stock in range(5):
            feed = (0, (0, (), (2,)), stock, False)
            self.assertEqual((taken(feed, 2), held(feed, 2), use(feed, 3)), ((3, 4), (3, 4), (2, 2)))

    def test_long_curves(self):
        for tool in (False, True):
            self.agree((7, LONG, 3, tool))
        self.agree((7, upper_inverse((0, (2,), (7, 9, 20))), 0, False))


class SupportsTest(unittest.TestCase):
    def test_cycle_by_cycle(self):
        maker = Maker(65)
        for _ in range(200):
            feed = maker.feed(4)
            for total in (0, 1, 2, 3, 7, 50, 999, 1000):
                self.assertEqual(supports(feed, total), plain_supports(feed, total), (feed, total))

    def test_edges(self):
        self.assertEqual([supports((0, (0, (), (2,)), 3, False), total) for total in range(4)], [1, 2, 2, 3])
        self.assertEqual([supports((0, (0, (0, 0), (0, 1)), 0, True), total) for total in range(3)], [3, 5, 7])
        self.assertEqual(supports((0, (0, (), (4,)), 0, False), 3), 0)
        self.assertEqual(supports((0, (0, (), (4,)), 4, False), 1000), 251)

    def test_a_stage_supports_the_least_number(self):
        maker = Maker(650)
        for _ in range(150):
            feeds = tuple(maker.feed(buffer) for buffer in range(maker.number(1, 3)))
            stage = (feeds, ((9, (0, (), (1,)), 1),), (0, (), (0,)), (0, (), (1,)), 1, (0, (), (1,)))
            totals = tuple(maker.number(0, 60) for _ in feeds)
            wanted = min(plain_supports(feed, total) for feed, total in zip(feeds, totals))
            self.assertEqual(supported(stage, totals), wanted)

    def test_totals_belong_to_the_inputs_in_order(self):
        feeds = ((5, (0, (), (1,)), 0, False), (2, (0, (), (2,)), 0, False))
        stage = (feeds, ((9, (0, (), (1,)), 1),), (0, (), (0,)), (0, (), (1,)), 1, (0, (), (1,)))
        self.assertEqual((supported(stage, (3, 6)), supported(stage, (6, 3)), supported(stage, (9, 0))), (3, 1, 0))

    def test_long_curves(self):
        for total in (0, 1, 5, 200, 1000):
            feed = (0, LONG, 2, True)
            self.assertEqual(supports(feed, total), plain_supports(feed, total))


if __name__ == "__main__":
    unittest.main()
