"""Points 16, 17 and 19: ranges, what is cut from them, how they are widened."""

import unittest

from carryclaim.ranges import at_least, at_most, has, join, other_than, widen, within
from tests.small import least_range, members, small_ranges

ALL_VALUES = (-10000, 10000, 1)
SMALL = small_ranges(-4, 5)


class RangeCase(unittest.TestCase):
    def assert_results(self, function, cases):
        for *arguments, wanted in cases:
            with self.subTest(arguments):
                self.assertEqual(function(*arguments), wanted)


class Has(RangeCase):
    def test_one_integer(self):
        self.assert_results(has, (
            ((5, 5, 0), 5, True), ((5, 5, 0), 4, False), ((5, 5, 0), 6, False), ((0, 0, 0), 0, True),
            ((-3, -3, 0), -3, True), ((-3, -3, 0), 3, False),
        ))

    def test_two_integers(self):
        span = (-2, 7, 9)
        self.assert_results(has, (
            (span, -2, True), (span, 7, True), (span, -1, False), (span, 0, False), (span, 6, False),
            (span, -3, False), (span, 8, False), (span, 16, False), (span, -11, False),
        ))

    def test_steps(self):
        span = (-7, 8, 3)
        for n in range(-30, 30):
            self.assertIs(has(span, n), n in (-7, -4, -1, 2, 5, 8))

    def test_all_values(self):
        self.assert_results(has, (
            (ALL_VALUES, -10000, True), (ALL_VALUES, 10000, True), (ALL_VALUES, 0, True),
            (ALL_VALUES, -10001, False), (ALL_VALUES, 10001, False),
        ))

    def test_small_ranges(self):
        for span in SMALL:
            for n in range(-8, 9):
                self.assertIs(has(span, n), n in members(span))


class Within(RangeCase):
    def test_written_out(self):
        self.assert_results(within, (
            ((5, 5, 0), (5, 5, 0), True),
            ((5, 5, 0), (6, 6, 0), False),
            ((5, 5, 0), (0, 10, 5), True),
            ((5, 5, 0), (0, 10, 2), False),
            ((0, 10, 5), (5, 5, 0), False),
            ((0, 10, 10), (0, 10, 5), True),
            ((0, 10, 5), (0, 10, 10), False),
            ((0, 12, 6), (0, 12, 3), True),
            ((0, 12, 6), (0, 12, 4), False),
            ((2, 8, 6), (0, 10, 2), True),
            ((2, 8, 6), (0, 10, 1), True),
            ((1, 7, 6), (0, 10, 2), False),
            ((1, 7, 2), (0, 8, 2), False),
            ((0, 10, 2), (0, 8, 2), False),
            ((-2, 8, 2), (0, 8, 2), False),
            (ALL_VALUES, ALL_VALUES, True),
            ((-10000, 10000, 2), ALL_VALUES, True),
            (ALL_VALUES, (-10000, 10000, 2), False),
        ))

    def test_small_ranges(self):
        for first in SMALL:
            for second in SMALL:
                self.assertIs(within(first, second), set(members(first)) <= set(members(second)))


class Join(RangeCase):
    def test_written_out(self):
        self.assert_results(join, (
            ((5, 5, 0), (5, 5, 0), (5, 5, 0)),
            ((5, 5, 0), (8, 8, 0), (5, 8, 3)),
            ((8, 8, 0), (5, 5, 0), (5, 8, 3)),
            ((0, 10, 5), (20, 20, 0), (0, 20, 5)),
            ((0, 10, 5), (12, 12, 0), (0, 12, 1)),
            ((0, 12, 4), (6, 18, 6), (0, 18, 2)),
            ((0, 12, 4), (1, 13, 4), (0, 13, 1)),
            ((0, 12, 6), (3, 9, 6), (0, 12, 3)),
            ((0, 12, 6), (0, 12, 4), (0, 12, 2)),
            ((0, 12, 2), (4, 8, 4), (0, 12, 2)),
            ((-10000, -10000, 0), (10000, 10000, 0), (-10000, 10000, 20000)),
        ))

    def test_small_ranges(self):
        for first in SMALL:
            for second in SMALL:
                self.assertEqual(join(first, second), least_range(members(first) + members(second)))


class Cuts(RangeCase):
    def test_at_most(self):
        span = (-4, 11, 5)
        self.assert_results(at_most, (
            (span, 12, span), (span, 11, span), (span, 10, (-4, 6, 5)), (span, 6, (-4, 6, 5)),
            (span, 5, (-4, 1, 5)), (span, 1, (-4, 1, 5)), (span, 0, (-4, -4, 0)), (span, -4, (-4, -4, 0)),
            (span, -5, None), (span, -20, None), (span, 10000, span),
            ((3, 3, 0), 3, (3, 3, 0)), ((3, 3, 0), 4, (3, 3, 0)), ((3, 3, 0), 2, None),
            (ALL_VALUES, -10000, (-10000, -10000, 0)), (ALL_VALUES, -10001, None), (ALL_VALUES, 9999, (-10000, 9999, 1)),
        ))

    def test_at_least(self):
        span = (-4, 11, 5)
        self.assert_results(at_least, (
            (span, -5, span), (span, -4, span), (span, -3, (1, 11, 5)), (span, 1, (1, 11, 5)),
            (span, 2, (6, 11, 5)), (span, 6, (6, 11, 5)), (span, 7, (11, 11, 0)), (span, 11, (11, 11, 0)),
            (span, 12, None), (span, 20, None), (span, -10000, span),
            ((3, 3, 0), 3, (3, 3, 0)), ((3, 3, 0), 2, (3, 3, 0)), ((3, 3, 0), 4, None),
            (ALL_VALUES, 10000, (10000, 10000, 0)), (ALL_VALUES, 10001, None), (ALL_VALUES, -9999, (-9999, 10000, 1)),
        ))

    def test_other_than(self):
        span = (-4, 11, 5)
        self.assert_results(other_than, (
            (span, -4, (1, 11, 5)), (span, 11, (-4, 6, 5)), (span, 1, span), (span, 6, span), (span, 0, span),
            (span, -5, span), (span, 12, span), (span, -9, span), (span, 16, span),
            ((3, 3, 0), 3, None), ((3, 3, 0), 2, (3, 3, 0)), ((3, 3, 0), 4, (3, 3, 0)),
            ((3, 9, 6), 3, (9, 9, 0)), ((3, 9, 6), 9, (3, 3, 0)), ((3, 9, 6), 6, (3, 9, 6)),
            (ALL_VALUES, 10000, (-10000, 9999, 1)), (ALL_VALUES, -10000, (-9999, 10000, 1)), (ALL_VALUES, 0, ALL_VALUES),
        ))

    def test_small_ranges(self):
        for span in SMALL:
            for n in range(-6, 8):
                numbers = members(span)
                with self.subTest(span, n=n):
                    self.assertEqual(at_most(span, n), least_range([k for k in numbers if k <= n]))
                    self.assertEqual(at_least(span, n), least_range([k for k in numbers if k >= n]))
                    others = [k for k in numbers if k != n]
                    wanted = span if span[0] < n < span[1] else least_range(others)
                    self.assertEqual(other_than(span, n), wanted)


class Widen(RangeCase):
    MARKS = (-10000, -7, -1, 0, 1, 8, 9, 10, 10000)

    def assert_widened(self, cases):
        self.assert_results(lambda old, new: widen(old, new, self.MARKS), cases)

    def test_a_new_range_within_the_old_one(self):
        self.assert_widened((
            ((3, 3, 0), (3, 3, 0), (3, 3, 0)),
            ((2, 6, 2), (4, 4, 0), (2, 6, 2)),
            ((2, 6, 2), (2, 6, 4), (2, 6, 2)),
            ((2, 6, 2), (2, 6, 2), (2, 6, 2)),
            (ALL_VALUES, (4, 5, 1), ALL_VALUES),
        ))

    def test_only_the_high_end_moves(self):
        self.assert_widened((
            ((0, 4, 2), (2, 6, 2), (0, 8, 2)),
            ((0, 8, 2), (2, 10, 2), (0, 10, 2)),
            ((0, 10, 2), (12, 12, 0), (0, 10000, 2)),
            ((0, 0, 0), (1, 1, 0), (0, 1, 1)),
            ((2, 2, 0), (3, 3, 0), (2, 8, 1)),
            ((2, 2, 0), (5, 5, 0), (2, 8, 3)),
            ((2, 2, 0), (6, 6, 0), (2, 6, 4)),
            ((3, 3, 0), (8, 8, 0), (3, 8, 5)),
            ((3, 3, 0), (9, 9, 0), (3, 9, 6)),
            ((3, 3, 0), (10, 10, 0), (3, 10, 7)),
            ((3, 3, 0), (11, 11, 0), (3, 9995, 8)),
            ((0, 9998, 2), (10000, 10000, 0), (0, 10000, 2)),
            ((0, 9998, 2), (9999, 9999, 0), (0, 10000, 1)),
        ))

    def test_only_the_low_end_moves(self):
        self.assert_widened((
            ((0, 4, 2), (-2, 2, 2), (-6, 4, 2)),
            ((0, 4, 2), (-1, 3, 2), (-1, 4, 1)),
            ((5, 5, 0), (4, 4, 0), (1, 5, 1)),
            ((5, 5, 0), (1, 1, 0), (1, 5, 4)),
            ((5, 5, 0), (3, 3, 0), (1, 5, 2)),
            ((6, 6, 0), (3, 3, 0), (3, 6, 3)),
            ((6, 6, 0), (0, 0, 0), (0, 6, 6)),
            ((6, 6, 0), (-3, -3, 0), (-3, 6, 9)),
            ((6, 6, 0), (-7, -7, 0), (-7, 6, 13)),
            ((6, 6, 0), (-8, -8, 0), (-9990, 6, 14)),
            ((-9998, 0, 2), (-10000, -10000, 0), (-10000, 0, 2)),
        ))

    def test_both_ends_move(self):
        self.assert_widened((
            ((2, 4, 2), (0, 6, 2), (0, 8, 2)),
            ((2, 4, 2), (-2, 8, 2), (-6, 8, 2)),
            ((3, 5, 2), (-2, 12, 7), (-7, 10000, 1)),
            ((3, 6, 3), (-3, 12, 3), (-6, 9999, 3)),
            ((3, 3, 0), (-8, 14, 11), (-9996, 9991, 11)),
        ))

    def test_only_the_step_changes(self):
        self.assert_widened((
            ((2, 6, 4), (4, 4, 0), (2, 6, 2)),
            ((2, 6, 4), (3, 3, 0), (2, 6, 1)),
            ((-5, 7, 6), (-5, 7, 4), (-5, 7, 2)),
            ((-5, 7, 12), (-3, 3, 6), (-5, 7, 2)),
        ))

    def test_an_end_that_is_reached_does_not_move(self):
        self.assert_widened((
            ((2, 6, 4), (4, 7, 3), (2, 8, 1)),
            ((2, 6, 4), (2, 7, 5), (2, 8, 1)),
            ((3, 7, 4), (2, 7, 5), (1, 7, 1)),
        ))

    def test_only_the_marks_that_there_must_be(self):
        marks = (-10000, 10000)
        self.assertEqual(widen((0, 0, 0), (1, 1, 0), marks), (0, 10000, 1))
        self.assertEqual(widen((0, 0, 0), (3, 3, 0), marks), (0, 9999, 3))
        self.assertEqual(widen((0, 0, 0), (-3, -3, 0), marks), (-9999, 0, 3))
        self.assertEqual(widen((0, 0, 0), (-7, 7, 14), marks), (-9996, 9996, 7))

    def test_the_example_of_the_document(self):
        marks = (-10000, -1, 0, 1, 2, 3, 9, 10, 11, 99, 100, 101, 10000)
        self.assertEqual(join((0, 4, 2), (2, 6, 2)), (0, 6, 2))
        self.assertEqual(widen((0, 4, 2), (2, 6, 2), marks), (0, 8, 2))
        self.assertEqual(widen((0, 8, 2), (2, 10, 2), marks), (0, 10, 2))

    def test_small_ranges(self):
        marks = (-10000, -9, -8, -6, -3, -1, 0, 2, 3, 6, 7, 9, 10000)
        for old in SMALL:
            for new in SMALL[::3]:
                with self.subTest(old, new=new):
                    self.assertEqual(widen(old, new, marks), self.widened(old, new, marks))

    def widened(self, old, new, marks):
        """The words of the document, with all integers written out."""
        if set(members(new)) <= set(members(old)):
            return old
        low, high, step = least_range(members(old) + members(new))
        if low < old[0]:
            mark = [m for m in marks if m <= low][-1]
            low = min(n for n in range(mark, low + 1) if (low - n) % step == 0)
        if high > old[1]:
            mark = [m for m in marks if m >= high][0]
            high = max(n for n in range(high, mark + 1) if (n - high) % step == 0)
        return (low, high, step)

    def test_a_widened_range_contains_both(self):
        for old in SMALL[::2]:
            for new in SMALL[::5]:
                wide = widen(old, new, self.MARKS)
                self.assertTrue(within(old, wide))
                self.assertTrue(within(new, wide))


if __name__ == "__main__":
    unittest.main()
