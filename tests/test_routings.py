"""Points 40 and 41: routings, their normal form, and shares."""

import unittest

from plantrace.allocation import optimal_routing
from plantrace.curves import total
from plantrace.inverses import lower_inverse, upper_inverse
from plantrace.routings import branch, from_shares, normal_routing, shares
from tests.plain import Maker, branches, is_normal, is_normal_sequence, longer, values
from tests.plain import branch as plain_branch

IDENTITY = (0, (), (1,))
ZERO = (0, (), (0,))


def stretched(routing, rounds, turns):
    """The same routing, written longer than need be."""
    return longer((0,) + routing, rounds, turns)[1:]


class BranchTest(unittest.TestCase):
    def test_one_unit_after_another(self):
        maker = Maker(40)
        for _ in range(200):
            routing = maker.routing()
            self.assertEqual([branch(routing, unit) for unit in range(30)], branches(routing, 30))

    def test_units_are_numbered_from_0(self):
        self.assertEqual([branch(((2,), (0, 1)), unit) for unit in range(5)], [2, 0, 1, 0, 1])
        self.assertEqual([branch(((), (3,)), unit) for unit in (0, 1, 10000)], [3, 3, 3])

    def test_far_units(self):
        routing = ((3, 3, 2, 1), (0, 1, 2))
        for unit in (9998, 9999, 10000):
            self.assertEqual(branch(routing, unit), plain_branch(routing, unit))


class NormalRoutingTest(unittest.TestCase):
    def test_edges(self):
        self.assertEqual(normal_routing(((), (0, 1, 0, 1))), ((), (0, 1)))
        self.assertEqual(normal_routing(((1, 0, 1), (0, 1))), ((), (1, 0)))
        self.assertEqual(normal_routing(((2, 1, 0, 1), (0, 1))), ((2,), (1, 0)))
        self.assertEqual(normal_routing(((3, 3, 3), (3, 3))), ((), (3,)))
        self.assertEqual(normal_routing(((0,), (1, 0, 1))), ((0,), (1, 0, 1)))

    def test_longer_forms_of_the_same_routing(self):
        maker = Maker(400)
        for _ in range(300):
            routing = maker.routing(high=2)
            short = normal_routing(routing)
            self.assertTrue(is_normal_sequence(*short))
            self.assertEqual(branches(short, 60), branches(routing, 60))
            self.assertEqual(normal_routing(stretched(routing, maker.number(1, 3), maker.number(0, 5))), short)
            self.assertEqual(normal_routing(short), short)


class SharesTest(unittest.TestCase):
    def test_example_of_the_document(self):
        wanted = ((0, (), (0, 1)), (0, (0,), (0, 1)), (0, (1,), (0,)))
        self.assertEqual(shares(((2,), (0, 1)), 3), wanted)

    def test_by_counting(self):
        maker = Maker(41)
        for _ in range(200):
            routing, many = maker.routing(), maker.number(1, 4)
            units, curves = branches(routing, 60), shares(routing, many)
            self.assertEqual(len(curves), many)
            for number, curve in enumerate(curves):
                self.assertTrue(is_normal(curve))
                self.assertEqual(values(curve, 61), [units[:x].count(number) for x in range(61)])

    def test_branches_that_never_occur(self):
        self.assertEqual(shares(((), (2,)), 4), (ZERO, ZERO, IDENTITY, ZERO))

    def test_further_branches_may_occur(self):
        self.assertEqual(shares(((3, 0), (2, 1)), 1), ((0, (0, 1), (0,)),))


class FromSharesTest(unittest.TestCase):
    def test_examples_of_the_document(self):
        routing = ((2,), (0, 1))
        self.assertEqual(from_shares(shares(routing, 3)), routing)
        self.assertIsNone(from_shares(shares(routing, 2)))

    def test_there_and_back(self):
        maker = Maker(410)
        for _ in range(300):
            routing, many = maker.routing(), maker.number(1, 4)
            names = set(branches(routing, 20))
            wanted = normal_routing(routing) if max(names) < many else None
            self.assertEqual(from_shares(shares(routing, many)), wanted)

    def test_curves_written_longer(self):
        maker = Maker(411)
        for _ in range(100):
            routing = maker.routing()
            curves = [longer(curve, maker.number(1, 3), maker.number(0, 4)) for curve in shares(routing, 4)]
            self.assertEqual(from_shares(tuple(curves)), normal_routing(routing))

    def test_shares_exchanged(self):
        one, two = shares(((1, 1), (0, 0, 1)), 2)
        self.assertEqual(from_shares((one, two)), ((1,), (1, 0, 0)))
        self.assertEqual(from_shares((two, one)), ((0,), (0, 1, 1)))

    def test_shares_left_out(self):
        for routing in (((), (0, 1, 2)), ((2,), (0, 1)), ((0, 1), (2,))):
            curves = shares(routing, 3)
            for at in range(3):
                self.assertIsNone(from_shares(curves[:at] + curves[at + 1:]))

    def test_a_branch_more_that_never_occurs(self):
        self.assertEqual(from_shares((ZERO, IDENTITY, ZERO, ZERO)), ((), (1,)))
        self.assertEqual(from_shares((IDENTITY,)), ((), (0,)))
        self.assertIsNone(from_shares((ZERO,)))

    def test_one_increment_changed_by_one(self):
        maker = Maker(412)
        for _ in range(150):
            curves = list(shares(maker.routing(), 4))
            at = maker.number(0, 3)
            initial, transient, period = longer(curves[at], 1, 2)
            place = maker.number(0, len(transient + period) - 1)
            steps = list(transient + period)
            steps[place] += maker.choice((1, -1)) if steps[place] else 1
            curves[at] = (initial, tuple(steps[:len(transient)]), tuple(steps[len(transient):]))
            self.assertIsNone(from_shares(tuple(curves)))

    def test_an_initial_value_changed(self):
        one, two = shares(((), (0, 1)), 2)
        self.assertIsNone(from_shares(((1,) + one[1:], two)))
        self.assertIsNone(from_shares(((1, (), (1,)),)))

    def test_curves_that_rise_together(self):
        self.assertIsNone(from_shares(((0, (), (1, 0)), (0, (), (1, 0)))))
        self.assertIsNone(from_shares(((0, (), (2, 0)),)))
        self.assertIsNone(from_shares(((0, (0, 2), (1,)),)))
        self.assertIsNone(from_shares(((0, (), (0, 1)), (0, (), (1, 0, 0, 1)))))

    def test_any_curves_by_the_definition(self):
        maker = Maker(413)
        for _ in range(600):
            curves = tuple(maker.curve(initial=0, high=1) for _ in range(maker.number(1, 3)))
            rows = zip(*[[after - before for before, after in zip(table, table[1:])]
                         for table in (values(curve, 80) for curve in curves)])
            units = [row.index(1) if sorted(row) == [0] * (len(row) - 1) + [1] else None for row in rows]
            result = from_shares(curves)
            if None in units:
                self.assertIsNone(result)
            else:
                self.assertEqual(branches(result, 79), units)
                self.assertTrue(is_normal_sequence(*result))

    def test_long_curves(self):
        rare = lower_inverse((0, (), (20, 19, 18, 17)))
        often = upper_inverse((0, (), (20, 19, 18, 17)))
        self.assertIsNone(from_shares((rare, often)))
        demands = ((0, (), (1, 0, 2)), (0, (3,), (2, 4)), (0, (), (0, 1)))
        routing = optimal_routing(demands)
        curves = shares(routing, 3)
        self.assertEqual(total(curves), IDENTITY)
        self.assertEqual(from_shares(curves), routing)
        many = ((0, (), (0, 1) * 49), (0, (), (1, 0) * 48), (0, (), (0,) * 97), (0, (), (0,) * 95))
        self.assertEqual(from_shares(many), ((), (1, 0)))
        spread = tuple((0, (), (1,) + (0,) * size) for size in (98, 96, 94, 92))
        self.assertIsNone(from_shares(spread))


if __name__ == "__main__":
    unittest.main()
