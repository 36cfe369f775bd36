"""Point 28: the convolutions and the best splits."""

import unittest

from plantrace.convolutions import best_split, max_plus, min_plus
from plantrace.curves import advanced, delayed, raised, total, value
from plantrace.inverses import lower_inverse, upper_inverse
from tests.plain import Maker, is_normal, longer, values

LONG = lower_inverse((0, (), (20, 19, 18, 17)))
NEARLY = lower_inverse((0, (), (20, 19, 18, 18)))


def sums(first, second, x):
    """The sums of all splits of x, by the part of the first curve."""
    ups, downs = first[:x + 1], second[:x + 1]
    return [up + down for up, down in zip(ups, reversed(downs))]


class ConvolutionCase(unittest.TestCase):
    def agree(self, first, second, points):
        """Both convolutions, by all splits of each of the points."""
        most, least = max_plus(first, second), min_plus(first, second)
        self.assertTrue(is_normal(most) and is_normal(least))
        many = max(points) + 1
        ups, downs = values(first, many), values(second, many)
        highs, lows = values(most, many), values(least, many)
        for x in points:
            splits = sums(ups, downs, x)
            self.assertEqual((highs[x], lows[x]), (max(splits), min(splits)), (first, second, x))


class ConvolutionTest(ConvolutionCase):
    def test_examples_of_the_document(self):
        slow, fast = (0, (), (1,)), (0, (), (0, 3))
        self.assertEqual(max_plus(fast, slow), (0, (), (1, 2)))
        self.assertEqual(min_plus(fast, slow), (0, (0,), (1,)))

    def test_by_the_definition(self):
        maker = Maker(28)
        for _ in range(200):
            self.agree(maker.curve(), maker.curve(), range(120))

    def test_low_curves_by_the_definition(self):
        maker = Maker(280)
        for _ in range(200):
            self.agree(maker.curve(initial=2, high=2), maker.curve(initial=2, high=2), range(120))

    def test_far_points(self):
        maker = Maker(281)
        far = (150, 200, 333, 500, 777, 998, 999, 1500, 1501, 1502, 1503)
        for _ in range(120):
            self.agree(maker.curve(), maker.curve(), far)

    def test_order_and_form_do_not_matter(self):
        maker = Maker(282)
        for _ in range(80):
            first, second = maker.curve(), maker.curve()
            for call in (max_plus, min_plus):
                wanted = call(first, second)
                self.assertEqual(call(second, first), wanted)
                self.assertEqual(call(longer(first, 2, 1), longer(second, 3, 4)), wanted)

    def test_equal_rates(self):
        maker = Maker(283)
        for _ in range(80):
            curve = maker.curve()
            other = maker.number(0, 20), maker.entries(0, 4, 20), (curve[2][1:] + curve[2][:1]) * 2
            self.agree(curve, other, range(90))

    def test_bounded_curves(self):
        self.agree((3, (1, 0, 20), (0,)), (0, (5, 1), (0, 0)), range(40))
        self.agree((3, (1, 0, 20), (0,)), (0, (5, 1), (0, 0, 1)), range(200))
        self.agree((0, (), (0,)), (2, (), (0, 7)), range(60))

    def test_the_faster_curve_begins_late(self):
        first, second = (0, (0, 0, 0, 0), (20, 0)), (0, (), (9, 10))
        self.agree(first, second, tuple(range(100)) + (1000, 1001, 2000, 2001))
        first, second = (0, (0, 0, 0, 0), (20, 20, 20)), (0, (), (20, 20, 20, 19))
        self.agree(first, second, tuple(range(300, 340)) + (1000, 1001, 2000, 2001))
        self.assertGreater(len(max_plus(first, second)[1]), 300)

    def test_the_slower_curve_begins_with_a_rise(self):
        first, second = (0, (20, 20, 20, 20), (0, 1)), (0, (), (1, 0, 1))
        self.agree(first, second, tuple(range(600)) + (1000, 1001, 2000, 2001))
        self.assertGreater(len(min_plus(first, second)[1]), 300)

    def test_long_curves(self):
        for first, second in (
            (LONG, NEARLY), (delayed(LONG, 20), raised(NEARLY, 7)), (LONG, (3, (20, 20), (0, 1))),
            (total((LONG, (0, (9, 9, 9), (0,)))), LONG), (upper_inverse((5, (1,), (20, 20))), NEARLY),
        ):
            self.agree(first, second, tuple(range(0, 400, 7)) + (5000, 5001, 12000, 12001, 12345))

    def test_values_far_out(self):
        first, second = (4, (7, 0), (3, 1)), (0, (), (0, 0, 5))
        ups, downs = values(first, 10001), values(second, 10001)
        for x in (9998, 9999, 10000):
            self.assertEqual(value(max_plus(first, second), x), max(sums(ups, downs, x)))
            self.assertEqual(value(min_plus(first, second), x), min(sums(ups, downs, x)))


class BestSplitTest(unittest.TestCase):
    def test_examples_of_the_document(self):
        slow, fast = (0, (), (1,)), (0, (), (0, 3))
        self.assertEqual(best_split(fast, slow, 3), (2, 1))
        self.assertEqual(best_split(fast, slow, 3, least=True), (1, 2))

    def test_by_trying_all_splits(self):
        maker = Maker(284)
        for _ in range(200):
            first, second = maker.curve(high=3), maker.curve(high=3)
            ups, downs = values(first, 201), values(second, 201)
            for x in (0, 1, 2, 3, 7, 8, 25, maker.number(9, 199), 200):
                splits = sums(ups, downs, x)
                most, least = splits.index(max(splits)), splits.index(min(splits))
                self.assertEqual(best_split(first, second, x), (most, x - most))
                self.assertEqual(best_split(first, second, x, least=False), (most, x - most))
                self.assertEqual(best_split(first, second, x, least=True), (least, x - least))

    def test_of_several_splits_the_least_first_part(self):
        even = (0, (), (2,))
        self.assertEqual(best_split(even, even, 9), (0, 9))
        self.assertEqual(best_split(even, even, 9, least=True), (0, 9))
        self.assertEqual(best_split(even, even, 0), (0, 0))
        self.assertEqual(best_split((0, (0, 1), (0,)), (0, (), (0,)), 5), (2, 3))

    def test_long_curves(self):
        late = advanced(LONG, 19)
        ups, downs = values(late, 201), values(NEARLY, 201)
        for x in (0, 17, 99, 200):
            splits = sums(ups, downs, x)
            self.assertEqual(best_split(late, NEARLY, x)[0], splits.index(max(splits)))
            self.assertEqual(best_split(late, NEARLY, x, least=True)[0], splits.index(min(splits)))


if __name__ == "__main__":
    unittest.main()
