"""Point 27: vertical and horizontal deviation, last exceedance, first point above."""

import unittest

from plantrace.curves import delayed, raised, total
from plantrace.deviations import first_above, horizontal, last_exceedance, vertical
from plantrace.errors import BoundedCurve
from plantrace.inverses import lower_inverse
from tests.plain import Maker, longer, step, values

LONG = lower_inverse((0, (), (20, 19, 18, 17)))
NEARLY = lower_inverse((0, (), (20, 19, 18, 18)))


class Plain:
    """Both curves' values at so many points, of which the last ones are whole common periods."""

    def __init__(self, first, second, many):
        self.first, self.second = first, second
        self.ups, self.downs = values(first, many), values(second, many)
        self.many = many
        self.periods = len(first[2]) * len(second[2])
        self.gaps = [up - down for up, down in zip(self.ups, self.downs)]

    def grows(self):
        """True if the gap at the end is greater than one common period before."""
        return self.gaps[-1] > self.gaps[-1 - self.periods]

    def vertical(self):
        return None if self.grows() else max(0, max(self.gaps))

    def horizontal(self):
        """The least k that is enough at each point, tried from 0 on."""
        if self.grows():
            return None
        far, k = list(self.downs), 0
        for x, up in enumerate(self.ups):
            while x + k >= len(far) or far[x + k] < up:
                if x + k >= len(far):
                    far.append(far[-1] + step(self.second, len(far) - 1))
                else:
                    k += 1
        return k

    def last_exceedance(self):
        above = [x for x, gap in enumerate(self.gaps) if gap > 0]
        if not above:
            return "never"
        return above[-1] if above[-1] < self.many - self.periods else "always"

    def first_above(self, m):
        above = [x for x, gap in enumerate(self.gaps) if gap > m]
        return above[0] if above else None


class DeviationCase(unittest.TestCase):
    def agree(self, first, second, many, *, levels=(0, 1, 7, 20, 200)):
        plain = Plain(first, second, many)
        self.assertEqual(vertical(first, second), plain.vertical(), (first, second))
        self.assertEqual(last_exceedance(first, second), plain.last_exceedance(), (first, second))
        for m in levels:
            self.assertEqual(first_above(first, second, m), plain.first_above(m), (first, second, m))
        if sum(second[2]) > 0:
            self.assertEqual(horizontal(first, second), plain.horizontal(), (first, second))


class DeviationTest(DeviationCase):
    def test_examples_of_the_document(self):
        first, second = (3, (), (1,)), (0, (), (2,))
        self.assertEqual((vertical(first, second), horizontal(first, second)), (3, 2))
        self.assertEqual(last_exceedance(first, second), 2)
        self.assertEqual((vertical(second, first), first_above(second, first, 5)), (None, 9))
        self.assertEqual((first_above(first, second, 2), first_above(first, second, 3)), (0, None))

    def test_by_the_definition(self):
        maker = Maker(27)
        for _ in range(150):
            self.agree(maker.curve(), maker.curve(), 4000)

    def test_low_curves_by_the_definition(self):
        maker = Maker(270)
        for _ in range(150):
            self.agree(maker.curve(initial=3, high=2), maker.curve(initial=3, high=2), 4000)

    def test_equal_rates(self):
        maker = Maker(271)
        for _ in range(100):
            curve = maker.curve()
            turned = curve[2][1:] + curve[2][:1]
            other = maker.number(0, 20), maker.entries(0, 4, 20), turned * maker.number(1, 3)
            self.agree(curve, other, 1000)
            self.agree(other, curve, 1000)

    def test_a_curve_and_itself(self):
        for curve in ((0, (), (1,)), (4, (1, 0), (0, 3)), (4, (1, 0), (0,))):
            self.assertEqual(vertical(curve, longer(curve, 2, 3)), 0)
            self.assertEqual(last_exceedance(curve, longer(curve, 2, 3)), "never")
            self.assertIsNone(first_above(curve, longer(curve, 2, 3), 0))
        self.assertEqual(horizontal((4, (1, 0), (0, 3)), (4, (1, 0), (0, 3))), 0)

    def test_never_and_always(self):
        self.assertEqual(last_exceedance((0, (), (1,)), (1, (), (1,))), "never")
        self.assertEqual(last_exceedance((1, (), (1,)), (0, (), (1,))), "always")
        self.assertEqual(last_exceedance((0, (), (1, 0)), (0, (), (0, 1))), "always")
        self.assertEqual(last_exceedance((0, (), (0, 1)), (0, (), (1, 0))), "never")
        self.assertEqual(last_exceedance((0, (), (0, 0, 0, 1)), (20, (), (0,))), "always")
        self.assertEqual(last_exceedance((1, (), (0,)), (0, (), (0,))), "always")
        self.assertEqual(last_exceedance((1, (), (0,)), (0, (0, 0, 1), (0,))), 2)
        self.assertEqual(last_exceedance((1, (), (1,)), (0, (2,), (1,))), 0)

    def test_bounded_first_curves(self):
        self.agree((20, (20,), (0,)), (0, (), (0, 0, 0, 1)), 2000)
        self.assertEqual(horizontal((20, (20,), (0,)), (0, (), (0, 0, 0, 1))), 159)
        self.assertEqual(horizontal((0, (), (0,)), (0, (), (1,))), 0)

    def test_both_curves_bounded(self):
        self.agree((20, (3,), (0,)), (4, (0, 20), (0, 0)), 100)
        self.agree((4, (0, 20), (0, 0)), (20, (3,), (0,)), 100)
        self.assertEqual(vertical((20, (3,), (0,)), (4, (0, 20), (0, 0))), 19)

    def test_from_0_on(self):
        self.assertEqual(vertical((0, (), (1,)), (5, (), (1,))), 0)
        self.assertEqual(horizontal((0, (), (1,)), (5, (), (1,))), 0)
        self.assertEqual(first_above((1, (), (0,)), (0, (), (0,)), 0), 0)
        self.assertIsNone(first_above((1, (), (0,)), (0, (), (0,)), 1))

    def test_a_crossing_far_out(self):
        slow, fast = (20, (20, 20, 20, 20), (20, 20, 19)), (0, (), (20, 20, 20, 19))
        self.agree(slow, fast, 5000)
        self.agree(fast, slow, 5000)
        self.assertGreater(last_exceedance(slow, fast), 200)
        self.assertGreater(first_above(fast, slow, 200), 2000)

    def test_long_curves(self):
        for first, second in (
            (NEARLY, LONG), (LONG, NEARLY), (raised(NEARLY, 20), delayed(LONG, 11)), (delayed(LONG, 20), NEARLY),
        ):
            self.agree(first, second, 60000, levels=(0, 3, 20))
        self.assertGreater(last_exceedance(raised(NEARLY, 20), LONG), 20000)
        self.assertGreater(first_above(LONG, NEARLY, 30), 40000)

    def test_long_equal_rates(self):
        other = total((LONG, (3, (1, 0, 2), (0,))))
        self.agree(other, LONG, 1000 * 74)
        self.agree(LONG, delayed(other, 20), 1000 * 74)


class WrongTest(unittest.TestCase):
    def test_horizontal_needs_an_unbounded_second_curve(self):
        for first in ((3, (), (1,)), (3, (1,), (0,)), (0, (), (0,))):
            for second in ((0, (), (0,)), (20, (20,), (0, 0))):
                with self.assertRaises(BoundedCurve) as caught:
                    horizontal(first, second)
                self.assertIs(type(caught.exception), BoundedCurve)

    def test_the_others_take_bounded_curves(self):
        self.assertIsNone(vertical((0, (), (1,)), (0, (), (0,))))
        self.assertEqual(last_exceedance((0, (), (1,)), (0, (), (0,))), "always")
        self.assertEqual(first_above((0, (), (1,)), (0, (), (0,)), 200), 201)


if __name__ == "__main__":
    unittest.main()
