"""Points 220 to 223: work by calendars, hour curves of hour curves; 6 and 7 where they touch these."""

import unittest

from plantrace.curves import is_unbounded, normal
from plantrace.hours import (
    any_open, both_open, complement, finish, greatest_elapsed, latest_start, next_open, put_off,
)
from tests.plain import Maker, is_normal, longer, step
from tests.samples import EACH

EVEN = (0, (), (1, 0))
CLOSED = (0, (), (0,))


def calendar(maker):
    """A calendar, often one that opens late or is written longer than need be."""
    made = maker.curve(initial=0, high=1, unbounded=True)
    return maker.choice((made, made, longer(made, maker.number(1, 3), maker.number(0, 4))))


def hour_curve(maker):
    """An hour curve, often a bounded one."""
    made = maker.curve(initial=0, high=1)
    return maker.choice((made, made[:2] + ((0,) * maker.number(1, 4),)))


def is_open(curve, hour):
    return step(curve, hour) == 1


def plain_finish(hours_open, start, hours):
    """Hour by hour: the finish of the work."""
    hour = start
    while hours > 0:
        hours -= is_open(hours_open, hour)
        hour += 1
    return hour


def plain_next(hours_open, start):
    while not is_open(hours_open, start):
        start += 1
    return start


def plain_latest(hours_open, end, hours):
    """Start by start, from the end back: the latest one, or None."""
    for start in range(end, -1, -1):
        if plain_finish(hours_open, start, hours) <= end:
            return start
    return None


class WorkTest(unittest.TestCase):
    def test_examples_of_the_document(self):
        self.assertEqual((
            finish(EVEN, 1, 2), next_open(EVEN, 1), latest_start(EVEN, 1, 2), latest_start(EVEN, 6, 2),
            greatest_elapsed(EVEN, 2),
        ), (5, 2, None, 2, 4))

    def test_hour_by_hour(self):
        maker, missing = Maker(221), 0
        for _ in range(1500):
            made, at, hours = calendar(maker), maker.number(0, 30), maker.choice((0, 1, maker.number(0, 15)))
            self.assertEqual(finish(made, at, hours), plain_finish(made, at, hours))
            self.assertEqual(next_open(made, at), plain_next(made, at))
            self.assertEqual(latest_start(made, at, hours), plain_latest(made, at, hours))
            missing += latest_start(made, at, hours) is None
        self.assertGreater(missing, 100)

    def test_greatest_elapsed_start_by_start(self):
        maker = Maker(222)
        for _ in range(400):
            made, hours = calendar(maker), maker.choice((0, 1, maker.number(0, 20)))
            spans = [plain_finish(made, start, hours) - start for start in range(40)]
            self.assertEqual(greatest_elapsed(made, hours), max(spans))

    def test_no_work(self):
        late = (0, (0, 0, 0), (1, 0))
        self.assertEqual([finish(late, start, 0) for start in (0, 1, 4, 1000)], [0, 1, 4, 1000])
        self.assertEqual([latest_start(late, end, 0) for end in (0, 1, 4, 1000)], [0, 1, 4, 1000])
        self.assertEqual(greatest_elapsed(late, 0), 0)

    def test_the_start_counts_if_it_is_open(self):
        self.assertEqual((finish(EVEN, 2, 1), finish(EVEN, 3, 1), next_open(EVEN, 2), next_open(EVEN, 3)), (3, 5, 2, 4))
        self.assertEqual((finish(EACH, 0, 1), next_open(EACH, 0)), (1, 0))

    def test_an_end_at_0(self):
        self.assertEqual((latest_start(EACH, 0, 0), latest_start(EACH, 0, 1), latest_start(EACH, 1, 1)), (0, None, 0))

    def test_just_enough_hours_and_one_too_few(self):
        late = (0, (0, 0, 1, 0), (0, 1))
        self.assertEqual([latest_start(late, end, 2) for end in (5, 6, 7, 8)], [None, 2, 2, 5])

    def test_a_late_opening_takes_longest(self):
        self.assertEqual(greatest_elapsed((0, (0, 0, 0, 0), (1,)), 3), 7)
        self.assertEqual(greatest_elapsed((0, (1, 1, 1, 1), (0, 0, 1)), 1), 3)
        self.assertEqual(greatest_elapsed((0, (1, 0, 0, 0), (1,)), 2), 5)

    def test_the_greatest_bounds(self):
        slow = (0, (), (0, 0, 0, 1))
        self.assertEqual((finish(slow, 1000, 100), latest_start(slow, 1000, 100)), (1400, 603))
        self.assertEqual((greatest_elapsed(slow, 100), next_open(slow, 1000)), (400, 1003))


class CurvesTest(unittest.TestCase):
    def test_examples_of_the_document(self):
        self.assertEqual(
            (both_open(EVEN, (0, (1,), (0,))), any_open(EVEN, complement(EVEN)), put_off(EVEN, 2)),
            ((0, (1,), (0,)), EACH, (0, (0,), (0, 1))),
        )

    def agree(self, curve, wanted):
        """The curve is an hour curve in normal form with these hours open."""
        self.assertTrue(is_normal(curve))
        self.assertEqual(curve[0], 0)
        self.assertEqual([is_open(curve, hour) for hour in range(len(wanted))], wanted)

    def test_hour_by_hour(self):
        maker, seen = Maker(223), set()
        for _ in range(600):
            first, second, later = hour_curve(maker), hour_curve(maker), maker.number(0, 20)
            one, two = ([is_open(curve, hour) for hour in range(50)] for curve in (first, second))
            self.agree(both_open(first, second), [a and b for a, b in zip(one, two)])
            self.agree(any_open(first, second), [a or b for a, b in zip(one, two)])
            self.agree(complement(first), [not a for a in one])
            self.agree(put_off(first, later), [False] * later + one)
            seen.update(is_unbounded(curve) for curve in (both_open(first, second), complement(first)))
        self.assertEqual(seen, {True, False})

    def test_bounded_ones(self):
        once = (0, (0, 1), (0,))
        self.assertEqual((both_open(once, EACH), any_open(once, CLOSED), complement(CLOSED)), (once, once, EACH))
        self.assertEqual((complement(EACH), both_open(EVEN, complement(EVEN))), (CLOSED, CLOSED))
        self.assertEqual((complement(once), any_open(once, EVEN)), ((0, (1, 0), (1,)), (0, (1, 1), (1, 0))))

    def test_put_off(self):
        self.assertEqual(put_off(longer(EVEN, 2, 3), 0), EVEN)
        self.assertEqual(put_off(CLOSED, 20), CLOSED)
        self.assertEqual(put_off(EACH, 1), (0, (0,), (1,)))

    def test_returned_curves_are_taken_beyond_the_bounds(self):
        thirds, fifths = (0, (), (0, 1, 1)), any_open((0, (), (1, 0, 0, 0)), (0, (), (0, 0, 1)))
        self.assertEqual(len(fifths[2]), 12)
        long = put_off(both_open(thirds, fifths), 20)
        hours = [False] * 20 + [is_open(thirds, t) and is_open(fifths, t) for t in range(200)]
        self.agree(both_open(long, EACH), hours)
        self.assertEqual(finish(long, 3, 7), [t for t, there in enumerate(hours) if there][6] + 1)
        self.assertEqual(latest_start(long, finish(long, 3, 7), 7), hours.index(True))
        self.assertEqual(normal(long), long)


if __name__ == "__main__":
    unittest.main()
