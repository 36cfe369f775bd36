"""Points 140 and 6: ranges; 7 where it touches them."""

import unittest

from plantrace.ranges import numbers_of, ranges_of
from plantrace.traces import upstream
from tests.plain import Maker, ranges
from tests.samples import EACH, line


class RangesTest(unittest.TestCase):
    def test_examples_of_the_document(self):
        self.assertEqual(ranges_of((7, 3, 4, 3, 9, 5)), ((3, 5), (7, 7), (9, 9)))
        self.assertEqual(numbers_of(((3, 5), (7, 7))), (3, 4, 5, 7))

    def test_no_numbers(self):
        self.assertEqual(ranges_of(()), ())
        self.assertEqual(numbers_of(()), ())

    def test_repeated_numbers(self):
        self.assertEqual(ranges_of((4, 4, 4)), ((4, 4),))
        self.assertEqual(ranges_of((4, 5, 4, 5)), ((4, 5),))

    def test_neighbours_and_gaps_of_one(self):
        self.assertEqual(ranges_of((0, 1)), ((0, 1),))
        self.assertEqual(ranges_of((0, 2)), ((0, 0), (2, 2)))
        self.assertEqual(ranges_of((998, 999, 996, 0)), ((0, 0), (996, 996), (998, 999)))
        self.assertEqual(ranges_of((2, 1, 0)), ((0, 2),))

    def test_any_numbers_one_by_one(self):
        maker = Maker(140)
        for _ in range(300):
            high = maker.choice((3, 12, 40, 999))
            numbers = tuple(maker.number(0, high) for _ in range(maker.number(0, 30)))
            found = ranges_of(numbers)
            self.assertEqual(found, ranges(numbers))
            self.assertEqual(numbers_of(found), tuple(sorted(set(numbers))))
            self.assertTrue(all(type(pair) is tuple and len(pair) == 2 for pair in found))
            for (_, last), (first, _) in zip(found, found[1:]):
                self.assertGreaterEqual(first, last + 2)

    def test_returned_ranges_of_many_numbers(self):
        (_, found), *_ = upstream(line(((0, (), (500,)), 0, EACH)), 1, (2, 3))[0]
        self.assertEqual(found, ((501, 1500),))
        self.assertEqual(numbers_of(found), tuple(range(501, 1501)))


if __name__ == "__main__":
    unittest.main()
