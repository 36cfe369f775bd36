"""Points 20 to 25: curves, their normal form, rates, differences, and what is made of them."""

import unittest

from plantrace.convolutions import max_plus
from plantrace.curves import (
    advanced, composed, delayed, first_difference, is_unbounded, maximum, minimum, normal, raised, rate,
    reduced, tabulated, total, value,
)
from plantrace.inverses import lower_inverse, upper_inverse
from tests.plain import Maker, is_normal, longer, step, values
from tests.plain import value as plain_value

ZERO = (0, (), (0,))
LONG = lower_inverse((0, (), (20, 19, 18, 17)))
NEARLY = lower_inverse((0, (), (20, 19, 18, 18)))


class CurveCase(unittest.TestCase):
    def agrees(self, curve, wanted):
        """The curve is in normal form and has the wanted values, from 0 on."""
        self.assertTrue(is_normal(curve), curve)
        self.assertEqual(values(curve, len(wanted)), wanted)


class ValueTest(CurveCase):
    def test_example_of_the_document(self):
        self.assertEqual([value((2, (5,), (0, 1)), x) for x in range(6)], [2, 7, 7, 8, 8, 9])

    def test_values_one_by_one(self):
        maker = Maker(20)
        for _ in range(200):
            curve = maker.curve()
            self.assertEqual([value(curve, x) for x in range(40)], values(curve, 40), curve)

    def test_far_values(self):
        for curve in ((3, (1, 20), (0, 7, 2)), (0, (), (1,)), (20, (5,), (0,)), LONG):
            far = values(curve, 10001)
            for x in (9990, 9997, 9999, 10000):
                self.assertEqual(value(curve, x), far[x])

    def test_bounded_and_unbounded(self):
        self.assertTrue(is_unbounded((0, (), (0, 0, 1))))
        self.assertTrue(is_unbounded((0, (0,), (20,))))
        self.assertFalse(is_unbounded((5, (), (0,))))
        self.assertFalse(is_unbounded((0, (4, 4), (0, 0, 0))))
        self.assertIs(is_unbounded(ZERO), False)
        self.assertIs(is_unbounded(LONG), True)


class NormalTest(CurveCase):
    def shortest(self, curve):
        """The equivalent curve with the shortest period, then transient part, by trying all of them."""
        steps = [step(curve, k) for k in range(60)]
        for size in range(1, 17):
            for start in range(17):
                if all(steps[k] == steps[k + size] for k in range(start, 60 - size)):
                    return curve[0], tuple(steps[:start]), tuple(steps[start:start + size])
        raise AssertionError(curve)

    def test_examples_of_the_document(self):
        self.assertEqual(normal((0, (1, 2), (1, 2, 1, 2))), (0, (), (1, 2)))

    def test_shortest_by_trying(self):
        maker = Maker(21)
        for _ in range(300):
            curve = longer(maker.curve(high=2), maker.number(1, 3), maker.number(0, 4))
            self.assertEqual(normal(curve), self.shortest(curve), curve)

    def test_one_member_after_another_is_turned(self):
        self.assertEqual(normal((4, (3, 0, 1), (2, 0, 1))), (4, (3,), (0, 1, 2)))
        self.assertEqual(normal((4, (2, 0, 1), (2, 0, 1))), (4, (), (2, 0, 1)))
        self.assertEqual(normal((4, (1, 2, 0, 1), (2, 0, 1))), (4, (), (1, 2, 0)))
        self.assertEqual(normal((1, (0, 0, 0), (0, 0))), (1, (), (0,)))
        self.assertEqual(normal((1, (5, 1), (1, 1))), (1, (5,), (1,)))

    def test_a_period_whose_beginning_alone_repeats_stays(self):
        self.assertEqual(normal((0, (), (1, 2, 1))), (0, (), (1, 2, 1)))
        self.assertEqual(normal((0, (), (1, 1, 2, 1, 1, 2))), (0, (), (1, 1, 2)))
        self.assertEqual(normal((0, (), (0, 1) * 30)), (0, (), (0, 1)))
        self.assertEqual(normal((0, (), (0, 1) * 30 + (0,))), (0, (), (0, 1) * 30 + (0,)))

    def test_normal_form_stays(self):
        maker = Maker(210)
        for _ in range(200):
            once = normal(maker.curve())
            self.assertEqual(normal(once), once)

    def test_the_argument_stays(self):
        curve = (0, (1, 2), (1, 2, 1, 2))
        normal(curve)
        self.assertEqual(curve, (0, (1, 2), (1, 2, 1, 2)))


class RateTest(CurveCase):
    def test_rates(self):
        self.assertEqual(rate((7, (9,), (2, 0, 4))), (2, 1))
        self.assertEqual(rate((0, (), (0, 1, 0, 1))), (1, 2))
        self.assertEqual(rate((0, (), (0, 0, 1))), (1, 3))
        self.assertEqual(rate((0, (), (20, 19, 18))), (19, 1))
        self.assertEqual(rate(LONG), (2, 37))

    def test_bounded_curves(self):
        for curve in (ZERO, (5, (1, 2), (0, 0, 0)), (20, (), (0, 0))):
            self.assertEqual(rate(curve), (0, 1))


class FirstDifferenceTest(CurveCase):
    def test_equivalent_curves_written_differently(self):
        maker = Maker(22)
        for _ in range(200):
            curve = maker.curve()
            other = longer(curve, maker.number(1, 3), maker.number(0, 5))
            self.assertIsNone(first_difference(curve, other))
            self.assertIsNone(first_difference(other, curve))

    def test_least_point_by_looking(self):
        maker = Maker(220)
        for _ in range(300):
            first, second = maker.curve(initial=1, high=1), maker.curve(initial=1, high=1)
            pairs = zip(values(first, 60), values(second, 60))
            wanted = [x for x, (one, two) in enumerate(pairs) if one != two]
            self.assertEqual(first_difference(first, second), wanted[0] if wanted else None, (first, second))

    def test_edges(self):
        self.assertEqual(first_difference((1, (), (0,)), (2, (), (0,))), 0)
        self.assertEqual(first_difference(ZERO, (0, (), (0, 0, 0, 1))), 4)
        self.assertEqual(first_difference((0, (0, 0, 0, 1), (0,)), (0, (0, 0, 0, 0), (0,))), 4)
        self.assertEqual(first_difference((0, (1, 1, 1, 1), (1, 1, 1, 2)), (0, (), (1,))), 8)
        self.assertEqual(first_difference((0, (1, 1, 1, 1), (0, 1, 1, 1)), (0, (1, 1, 1, 1), (0, 1, 1))), 8)

    def test_long_curves(self):
        pairs = zip(values(LONG, 400), values(NEARLY, 400))
        wanted = [x for x, (one, two) in enumerate(pairs) if one != two]
        self.assertEqual(first_difference(LONG, NEARLY), wanted[0])
        self.assertIsNone(first_difference(LONG, advanced(LONG, 0)))


class TabulatedTest(CurveCase):
    def test_example_of_the_document(self):
        self.assertEqual(tabulated((2, 7, 7, 8, 8, 9), 2), (2, (5,), (0, 1)))

    def test_all_periods(self):
        maker = Maker(23)
        for _ in range(200):
            table = sorted(maker.number(0, 100) for _ in range(maker.number(2, 13)))
            steps = [after - before for before, after in zip(table, table[1:])]
            for k in range(1, len(table)):
                wanted = list(table)
                for x in range(60):
                    wanted.append(wanted[-1] + steps[-k:][x % k])
                self.agrees(tabulated(tuple(table), k), wanted)

    def test_edges(self):
        self.assertEqual(tabulated((3, 3), 1), (3, (), (0,)))
        self.assertEqual(tabulated((0, 100), 1), (0, (), (100,)))
        self.assertEqual(tabulated((1, 2, 3, 4), 3), (1, (), (1,)))
        self.assertEqual(tabulated((1, 2, 4, 5, 7), 4), (1, (), (1, 2)))


class ShiftTest(CurveCase):
    def test_all_four_by_the_definition(self):
        maker = Maker(24)
        for _ in range(250):
            curve, k = maker.curve(), maker.choice((0, 1, 2, 5, 19, 20, maker.number(0, 20)))
            plain = values(curve, 160)
            self.agrees(raised(curve, k), [height + k for height in plain])
            self.agrees(advanced(curve, k), plain[k:])
            self.agrees(delayed(curve, k), [plain[max(0, x - k)] for x in range(160)])
            self.agrees(reduced(curve, k), [max(0, height - k) for height in plain])

    def test_example_of_the_document(self):
        self.assertEqual(reduced((1, (), (2,)), 4), (0, (0, 1), (2,)))

    def test_reduced_bounded_curves(self):
        self.assertEqual(reduced((5, (2,), (0,)), 7), ZERO)
        self.assertEqual(reduced((5, (2,), (0,)), 20), ZERO)
        self.assertEqual(reduced((5, (2,), (0,)), 6), (0, (1,), (0,)))
        self.assertEqual(reduced((5, (2,), (0,)), 5), (0, (2,), (0,)))
        self.assertEqual(reduced((5, (2,), (0,)), 4), (1, (2,), (0,)))
        self.assertEqual(reduced(ZERO, 0), ZERO)

    def test_delayed_by_more_than_the_curve_rises(self):
        self.assertEqual(delayed((4, (), (0, 3)), 3), (4, (0, 0, 0), (0, 3)))
        self.assertEqual(delayed((4, (), (3, 0)), 3), (4, (0, 0), (0, 3)))
        self.assertEqual(delayed(ZERO, 20), ZERO)

    def test_long_curves(self):
        for curve in (LONG, upper_inverse((3, (20, 20, 20, 20), (7, 0, 19)))):
            plain = values(curve, 900)
            for k in (0, 1, 20):
                self.agrees(raised(curve, k), [height + k for height in plain])
                self.agrees(advanced(curve, k), plain[k:])
                self.agrees(delayed(curve, k), [plain[max(0, x - k)] for x in range(900)])
                self.agrees(reduced(curve, k), [max(0, height - k) for height in plain])


class MinimumTest(CurveCase):
    def both_agree(self, first, second, many):
        one, two = values(first, many), values(second, many)
        self.agrees(minimum(first, second), [min(pair) for pair in zip(one, two)])
        self.agrees(maximum(first, second), [max(pair) for pair in zip(one, two)])

    def test_example_of_the_document(self):
        self.assertEqual(minimum((0, (), (2,)), (3, (), (1,))), (0, (2, 2, 2), (1,)))

    def test_by_the_definition(self):
        maker = Maker(25)
        for _ in range(300):
            self.both_agree(maker.curve(), maker.curve(), 300)

    def test_equal_rates(self):
        self.both_agree((0, (), (0, 2)), (0, (), (1,)), 50)
        self.both_agree((0, (), (2, 0)), (0, (), (0, 0, 3)), 50)
        self.both_agree((3, (0, 5), (1, 0, 2)), (4, (), (2, 0, 0, 2)), 100)
        self.both_agree((3, (0, 5), (0,)), (4, (1, 2, 3), (0, 0)), 30)

    def test_nearly_equal_rates_cross_far_out(self):
        first, second = (20, (20, 20, 20, 20), (20, 20, 19)), (0, (), (20, 20, 20, 19))
        self.both_agree(first, second, 3000)
        least = minimum(first, second)
        self.assertGreater(len(least[1]), 250)
        self.assertEqual(plain_value(least, 9000), plain_value(first, 9000))
        self.assertEqual(value(maximum(first, second), 10000), plain_value(second, 10000))

    def test_bounded_curves(self):
        self.both_agree((20, (20, 20), (0,)), (0, (), (0, 0, 0, 1)), 400)
        self.both_agree((20, (), (0,)), (7, (), (0,)), 30)
        self.both_agree((0, (1, 0, 20), (0,)), (7, (1,), (0,)), 30)

    def test_long_nearly_equal_rates(self):
        slower = raised(NEARLY, 20)
        self.both_agree(slower, LONG, 60000)
        self.assertGreater(len(minimum(slower, LONG)[1]), 20000)

    def test_order_does_not_matter(self):
        maker = Maker(250)
        for _ in range(100):
            first, second = maker.curve(), maker.curve()
            self.assertEqual(minimum(first, second), minimum(second, first))
            self.assertEqual(maximum(first, second), maximum(second, first))


class TotalTest(CurveCase):
    def test_no_curves(self):
        self.assertEqual(total(()), ZERO)

    def test_by_the_definition(self):
        maker = Maker(26)
        for _ in range(200):
            curves = tuple(maker.curve() for _ in range(maker.number(1, 3)))
            columns = zip(*[values(curve, 120) for curve in curves])
            self.agrees(total(curves), [sum(column) for column in columns])

    def test_one_curve_gets_its_normal_form(self):
        self.assertEqual(total(((0, (1, 2), (1, 2, 1, 2)),)), (0, (), (1, 2)))

    def test_periods_without_a_common_divisor(self):
        curves = ((1, (), (0, 0, 0, 5)), (2, (9,), (0, 0, 3)), (3, (0, 0), (0, 1)))
        result = total(curves)
        self.assertEqual(len(result[2]), 12)
        self.agrees(result, [sum(row) for row in zip(*[values(curve, 200) for curve in curves])])

    def test_long_curves(self):
        curves = (LONG, NEARLY, (3, (1, 2, 3, 4), (0, 1, 0)))
        result = total(curves)
        self.agrees(result, [sum(row) for row in zip(*[values(curve, 12000) for curve in curves])])


class ComposedTest(CurveCase):
    def plain(self, curves, many):
        points = list(range(many))
        for curve in curves:
            table = values(curve, max(points) + 1)
            points = [table[x] for x in points]
        return points

    def test_example_of_the_document(self):
        self.assertEqual(composed(((0, (), (2,)), (1, (), (0, 0, 1)))), (1, (), (0, 1, 1)))

    def test_by_the_definition(self):
        maker = Maker(27)
        for _ in range(200):
            curves = tuple(maker.curve(high=maker.choice((1, 3, 20))) for _ in range(maker.number(1, 3)))
            self.agrees(composed(curves), self.plain(curves, 90))

    def test_one_curve(self):
        self.assertEqual(composed(((0, (1, 2), (1, 2, 1, 2)),)), (0, (), (1, 2)))

    def test_the_first_curve_is_applied_first(self):
        self.assertEqual(composed(((1, (), (1,)), (0, (), (3,)))), (3, (), (3,)))
        self.assertEqual(composed(((0, (), (3,)), (1, (), (1,)))), (1, (), (3,)))

    def test_bounded_curves(self):
        low, high = (1, (1, 0, 1), (0,)), (0, (1, 2, 3, 4), (5, 6))
        for curves in ((low, high), (high, low), (low, low), (ZERO, high), (high, ZERO), (low, high, low)):
            self.agrees(composed(curves), self.plain(curves, 60))

    def test_the_inner_curve_reaches_the_outer_period_late(self):
        inner, outer = (0, (0, 0, 1), (0, 0, 0, 1)), (0, (9, 0, 7, 1), (2, 0, 0))
        self.agrees(composed((inner, outer)), self.plain((inner, outer), 300))

    def test_long_curves(self):
        for curves in ((LONG, NEARLY), (NEARLY, (1, (2, 3), (4, 0, 1))), ((1, (2, 3), (4, 0, 1)), LONG, NEARLY)):
            self.agrees(composed(curves), self.plain(curves, 20000))


class KindsTest(CurveCase):
    def test_curves_are_tuples_of_tuples_of_integers(self):
        made = (
            normal((1, (), (1,))), tabulated((1, 1), 1), raised(LONG, 1), advanced(LONG, 1), delayed(LONG, 1),
            reduced(LONG, 1), minimum(LONG, NEARLY), maximum(LONG, NEARLY), total(()), total((LONG,)),
            composed((LONG,)), max_plus(LONG, LONG),
        )
        for curve in made:
            self.assertTrue(is_normal(curve))

    def test_what_one_function_returned_another_one_takes(self):
        curve = maximum(total((LONG, NEARLY)), composed(((0, (), (0, 1)), (0, (), (1, 2, 3, 4)))))
        self.assertLessEqual(len(LONG[1]) + len(LONG[2]), 100)
        self.assertTrue(is_normal(curve))
        self.assertEqual(value(LONG, 5000), plain_value(LONG, 5000))


if __name__ == "__main__":
    unittest.main()
