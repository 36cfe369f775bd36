"""Point 26: the lower and the upper inverse, at a point and as curves."""

import unittest

from plantrace.curves import composed, raised, total, value
from plantrace.errors import BoundedCurve
from plantrace.inverses import lower_at, lower_inverse, upper_at, upper_inverse
from tests.plain import Maker, is_normal, longer, lower, upper, values

LONG = lower_inverse((0, (), (20, 19, 18, 17)))


def plain_inverses(curve, many):
    """The lower and the upper inverses at 0 to many - 1; 0 for an upper one that is not there."""
    lows, highs = [], []
    low, high, heights = 0, 0, values(curve, lower(curve, many) + 2)
    for x in range(many):
        while heights[low] < x:
            low += 1
        while heights[high + 1] <= x:
            high += 1
        lows.append(low)
        highs.append(high if heights[0] <= x else 0)
    return lows, highs


class AtTest(unittest.TestCase):
    def test_example_of_the_document(self):
        curve = (4, (), (0, 1))
        self.assertEqual((lower_at(curve, 6), upper_at(curve, 6), upper_at(curve, 3)), (4, 5, None))

    def test_by_the_definition(self):
        maker = Maker(26)
        for _ in range(200):
            curve = maker.curve(unbounded=True)
            for x in list(range(45)) + [99, 100, 199, 200]:
                self.assertEqual(lower_at(curve, x), lower(curve, x), (curve, x))
                self.assertEqual(upper_at(curve, x), upper(curve, x), (curve, x))

    def test_below_the_initial_value(self):
        curve = (7, (0, 2), (0, 0, 3))
        self.assertEqual([lower_at(curve, x) for x in range(10)], [0, 0, 0, 0, 0, 0, 0, 0, 2, 2])
        self.assertEqual([upper_at(curve, x) for x in range(10)], [None] * 7 + [1, 1, 4])

    def test_at_0(self):
        self.assertEqual((lower_at((0, (), (1,)), 0), upper_at((0, (), (1,)), 0)), (0, 0))
        self.assertEqual((lower_at((0, (0, 0), (0, 1)), 0), upper_at((0, (0, 0), (0, 1)), 0)), (0, 3))
        self.assertEqual((lower_at((1, (), (1,)), 0), upper_at((1, (), (1,)), 0)), (0, None))

    def test_long_curves(self):
        for curve in (LONG, total((LONG, (3, (1, 0, 2), (1,)))), raised(LONG, 17)):
            for x in (0, 1, 2, 16, 17, 18, 63, 100, 200):
                self.assertEqual(lower_at(curve, x), lower(curve, x))
                self.assertEqual(upper_at(curve, x), upper(curve, x))


class CurvesTest(unittest.TestCase):
    def agrees(self, curve, many):
        lows, highs = plain_inverses(curve, many)
        for made, wanted in ((lower_inverse(curve), lows), (upper_inverse(curve), highs)):
            self.assertTrue(is_normal(made), made)
            self.assertEqual(values(made, many), wanted, curve)

    def test_example_of_the_document(self):
        self.assertEqual(lower_inverse((0, (), (3,))), (0, (), (1, 0, 0)))
        self.assertEqual(upper_inverse((0, (), (3,))), (0, (), (0, 0, 1)))

    def test_by_the_definition(self):
        maker = Maker(260)
        for _ in range(200):
            self.agrees(maker.curve(unbounded=True), 400)

    def test_written_longer_than_need_be(self):
        maker = Maker(261)
        for _ in range(50):
            curve = maker.curve(unbounded=True)
            other = longer(curve, 3, 2)
            self.assertEqual(lower_inverse(curve), lower_inverse(other))
            self.assertEqual(upper_inverse(curve), upper_inverse(other))

    def test_edges(self):
        for curve in (
            (0, (), (1,)), (20, (), (1,)), (20, (20, 20, 20, 20), (20, 20, 20, 20)), (0, (0, 0, 0, 0), (0, 0, 0, 1)),
            (5, (0, 9), (0, 1)), (5, (), (0, 0, 20)), (1, (), (1, 1)), (0, (7,), (1,)), (3, (0,), (2, 0)),
        ):
            self.agrees(curve, 700)

    def test_far_points(self):
        curve = (9, (4, 0, 11), (3, 0, 0, 5))
        for x in (5000, 7777, 9999):
            self.assertEqual(value(lower_inverse(curve), x), lower(curve, x))
            self.assertEqual(value(upper_inverse(curve), x), upper(curve, x))

    def test_long_curves(self):
        for curve in (LONG, composed((LONG, (2, (1,), (0, 3)))), upper_inverse((19, (20, 1), (7, 0, 20)))):
            self.agrees(curve, 900)

    def test_an_inverse_of_an_inverse(self):
        curve = (0, (2, 0, 1), (3, 1))
        self.assertEqual(values(upper_inverse(lower_inverse(curve)), 50), values(curve, 50))


class WrongTest(unittest.TestCase):
    def test_bounded_curves(self):
        for curve in ((3, (1,), (0,)), (0, (), (0,)), (0, (20, 20), (0, 0, 0)), longer((3, (1,), (0,)), 4, 2)):
            for call in (lower_inverse, upper_inverse):
                with self.assertRaises(BoundedCurve) as caught:
                    call(curve)
                self.assertIs(type(caught.exception), BoundedCurve)
            for call in (lower_at, upper_at):
                for x in (0, 2, 3, 4, 200):
                    with self.assertRaises(BoundedCurve) as caught:
                        call(curve, x)
                    self.assertIs(type(caught.exception), BoundedCurve)


if __name__ == "__main__":
    unittest.main()
