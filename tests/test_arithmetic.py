"""Point 18: what an operation makes of two ranges."""

import unittest

from carryclaim.arithmetic import combine
from tests.small import least_range, members, small_ranges

ALL_VALUES = (-10000, 10000, 1)
SMALL = small_ranges(-4, 4)
SIGNS = ("+", "-", "*", "/", "mod")


def one(n):
    return (n, n, 0)


def results(sign, first, second):
    """All results of two integers of the ranges, one by one."""
    found = []
    for left in members(first):
        for right in members(second):
            if sign == "+":
                found.append(left + right)
            elif sign == "-":
                found.append(left - right)
            elif sign == "*":
                found.append(left * right)
            elif right != 0:
                quotient = left // right
                found.append(quotient if sign == "/" else left - right * quotient)
    return found


class CombineCase(unittest.TestCase):
    def assert_ranges(self, sign, cases):
        """Cases (first, second, range) without a failure."""
        for first, second, wanted in cases:
            with self.subTest(first, sign=sign, second=second):
                self.assertEqual(combine(sign, first, second), (wanted, ()))

    def assert_results(self, sign, cases):
        """Cases (first, second, (range, kinds))."""
        for first, second, wanted in cases:
            with self.subTest(first, sign=sign, second=second):
                self.assertEqual(combine(sign, first, second), wanted)


class Sums(CombineCase):
    def test_plus(self):
        self.assert_ranges("+", (
            (one(2), one(3), one(5)),
            (one(-2), one(2), one(0)),
            ((0, 6, 3), one(4), (4, 10, 3)),
            (one(4), (0, 6, 3), (4, 10, 3)),
            ((0, 6, 3), (1, 9, 4), (1, 15, 1)),
            ((0, 12, 4), (-6, 0, 6), (-6, 12, 2)),
            ((-5, 5, 5), (-15, 15, 10), (-20, 20, 5)),
        ))

    def test_minus(self):
        self.assert_ranges("-", (
            (one(2), one(3), one(-1)),
            (one(3), one(3), one(0)),
            ((0, 6, 3), one(4), (-4, 2, 3)),
            (one(4), (0, 6, 3), (-2, 4, 3)),
            ((0, 6, 3), (1, 9, 4), (-9, 5, 1)),
            ((0, 12, 4), (-6, 0, 6), (0, 18, 2)),
            ((-5, 5, 5), (-15, 15, 10), (-20, 20, 5)),
        ))

    def test_results_that_lie_partly_beyond_the_values(self):
        overflow = ("overflow",)
        self.assert_results("+", (
            (one(9999), one(1), (one(10000), ())),
            ((9998, 10000, 2), one(1), (one(9999), overflow)),
            ((9000, 9900, 300), (0, 600, 200), ((9000, 10000, 100), overflow)),
            ((9000, 9900, 300), (50, 650, 200), ((9050, 9950, 100), overflow)),
            ((9997, 10000, 3), (0, 3, 3), ((9997, 10000, 3), overflow)),
            ((9997, 10000, 3), (1, 4, 3), (one(9998), overflow)),
            ((-10000, -9990, 5), (-4, 6, 5), ((-9999, -9984, 5), overflow)),
            (ALL_VALUES, ALL_VALUES, (ALL_VALUES, overflow)),
            ((-10000, 10000, 20000), (-1, 1, 2), ((-9999, 9999, 2), overflow)),
        ))
        self.assert_results("-", (
            (one(-9999), one(1), (one(-10000), ())),
            ((-10000, -9998, 2), one(1), (one(-9999), overflow)),
            ((9995, 10000, 5), (-3, 2, 5), ((9993, 9998, 5), overflow)),
            (ALL_VALUES, ALL_VALUES, (ALL_VALUES, overflow)),
        ))

    def test_results_that_lie_wholly_beyond_the_values(self):
        nothing = (None, ("overflow",))
        self.assert_results("+", (
            (one(10000), one(1), nothing),
            ((9000, 10000, 500), (1001, 2001, 100), nothing),
            ((-10000, -9000, 1000), (-2000, -1500, 500), nothing),
            ((9990, 10000, 10), (11, 31, 20), nothing),
        ))
        self.assert_results("-", (
            (one(-10000), one(1), nothing),
            (one(10000), one(-1), nothing),
            ((5000, 10000, 1), (-10000, -5001, 1), nothing),
        ))

    def test_nothing_within_between_two_results_beyond(self):
        self.assert_results("*", (
            (one(10000), (-3, 3, 6), (None, ("overflow",))),
            (one(3), (-5000, 5000, 10000), (None, ("overflow",))),
            ((-101, 101, 202), one(101), (None, ("overflow",))),
        ))


class Products(CombineCase):
    def test_single_integers(self):
        self.assert_ranges("*", (
            (one(3), one(4), one(12)), (one(-3), one(4), one(-12)), (one(-3), one(-4), one(12)),
            (one(0), one(5), one(0)), (one(-100), one(100), one(-10000)), (one(100), one(100), one(10000)),
        ))

    def test_steps(self):
        self.assert_ranges("*", (
            ((1, 7, 3), one(2), (2, 14, 6)),
            (one(2), (1, 7, 3), (2, 14, 6)),
            (one(-2), (1, 7, 3), (-14, -2, 6)),
            ((1, 7, 3), one(0), one(0)),
            (one(0), (1, 7, 3), one(0)),
            ((2, 6, 2), (3, 9, 3), (6, 54, 6)),
            ((0, 6, 2), (0, 9, 3), (0, 54, 6)),
            ((4, 10, 6), (10, 14, 4), (40, 140, 4)),
            ((5, 15, 10), (6, 12, 6), (30, 180, 30)),
            ((-4, 8, 12), (3, 11, 8), (-44, 88, 4)),
        ))

    def test_ends_of_both_signs(self):
        self.assert_ranges("*", (
            ((-2, 3, 5), (-5, 7, 12), (-15, 21, 1)),
            ((-3, 2, 5), (-7, 5, 12), (-15, 21, 1)),
            ((-3, -1, 2), (-6, -2, 4), (2, 18, 4)),
            ((-3, 3, 1), (-2, -1, 1), (-6, 6, 1)),
        ))

    def test_beyond_the_values(self):
        self.assert_results("*", (
            ((0, 200, 100), (0, 100, 50), ((0, 10000, 5000), ("overflow",))),
            ((-200, 200, 50), (100, 101, 1), ((-10000, 10000, 50), ("overflow",))),
            (ALL_VALUES, ALL_VALUES, (ALL_VALUES, ("overflow",))),
            (one(101), one(100), (None, ("overflow",))),
            (one(-101), one(100), (None, ("overflow",))),
            ((100, 101, 1), one(100), (one(10000), ("overflow",))),
        ))


class Quotients(CombineCase):
    def test_ranges_without_zero(self):
        self.assert_ranges("/", (
            (one(7), one(2), one(3)), (one(-7), one(2), one(-4)), (one(7), one(-2), one(-4)),
            (one(-7), one(-2), one(3)), (one(0), one(-9), one(0)), (one(1), one(-10000), one(-1)),
            ((0, 10, 5), one(5), (0, 2, 1)),
            ((0, 10, 5), one(20), one(0)),
            ((-10, 10, 5), (1, 3, 2), (-10, 10, 1)),
            ((10, 20, 10), (2, 5, 3), (2, 10, 1)),
            ((10, 20, 10), (-5, -2, 3), (-10, -2, 1)),
            ((-10, -5, 5), (3, 4, 1), (-4, -2, 1)),
            ((-7, 7, 14), (-2, 3, 5), (-4, 3, 1)),
            ((100, 100, 0), (1, 10000, 1), (0, 100, 1)),
            ((-10000, 10000, 20000), one(-1), (-10000, 10000, 1)),
        ))

    def test_zero_in_the_right_range(self):
        division = ("division",)
        self.assert_results("/", (
            (one(7), one(0), (None, division)),
            (ALL_VALUES, one(0), (None, division)),
            (one(7), (0, 2, 1), ((3, 7, 1), division)),
            (one(7), (0, 2, 2), (one(3), division)),
            (one(7), (-2, 0, 1), ((-7, -4, 1), division)),
            (one(7), (-2, 0, 2), (one(-4), division)),
            (one(7), (-3, 3, 1), ((-7, 7, 1), division)),
            (one(7), (-3, 3, 3), ((-3, 2, 1), division)),
            ((-8, 4, 12), (-2, 4, 2), ((-4, 4, 1), division)),
            (ALL_VALUES, ALL_VALUES, (ALL_VALUES, division)),
            (one(0), (-5, 5, 5), (one(0), division)),
        ))

    def test_zero_between_the_ends_but_not_in_the_right_range(self):
        self.assert_ranges("/", (
            (one(8), (-1, 2, 3), (-8, 4, 1)),
            (one(8), (-4, 2, 3), (-8, 4, 1)),
            (one(8), (-2, 1, 3), (-4, 8, 1)),
        ))


class Remainders(CombineCase):
    def test_one_divisor_and_a_step_that_is_its_multiple(self):
        self.assert_ranges("mod", (
            (one(7), one(3), one(1)), (one(-7), one(3), one(2)), (one(7), one(-3), one(-2)),
            (one(-7), one(-3), one(-1)), (one(6), one(3), one(0)), (one(0), one(-3), one(0)),
            (one(10000), one(-10000), one(0)), (one(-1), one(10000), one(9999)), (one(1), one(-10000), one(-9999)),
            ((1, 13, 6), one(3), one(1)), ((-1, 11, 6), one(3), one(2)), ((1, 13, 6), one(-3), one(-2)),
            ((1, 13, 6), one(6), one(1)), ((1, 13, 6), one(-6), one(-5)),
            (ALL_VALUES, one(1), one(0)), (ALL_VALUES, one(-1), one(0)), ((3, 9, 3), one(1), one(0)),
            ((-10000, 10000, 20000), one(10000), one(0)), ((-9999, 9999, 19998), one(9999), one(0)),
        ))

    def test_one_divisor_and_one_quotient(self):
        self.assert_ranges("mod", (
            ((1, 3, 1), one(5), (1, 3, 1)),
            ((0, 4, 2), one(5), (0, 4, 2)),
            ((11, 14, 3), one(5), (1, 4, 3)),
            ((-4, -2, 2), one(5), (1, 3, 2)),
            ((-5, -1, 1), one(5), (0, 4, 1)),
            ((1, 3, 1), one(-5), (-4, -2, 1)),
            ((-4, -2, 2), one(-5), (-4, -2, 2)),
            ((-4, 0, 2), one(-5), (-4, 0, 2)),
            ((6, 10, 4), one(-5), (-4, 0, 4)),
        ))

    def test_one_divisor_and_several_quotients(self):
        self.assert_ranges("mod", (
            ((0, 5, 1), one(5), (0, 4, 1)),
            ((4, 5, 1), one(5), (0, 4, 1)),
            ((-1, 0, 1), one(5), (0, 4, 1)),
            ((-1, 1, 2), one(2), one(1)),
            ((0, 3, 3), one(2), (0, 1, 1)),
            ((0, 6, 6), one(4), (0, 3, 1)),
            ((0, 5, 1), one(-5), (-4, 0, 1)),
            ((0, 1, 1), one(-5), (-4, 0, 1)),
            ((-5, -4, 1), one(-5), (-4, 0, 1)),
            ((-6, -4, 2), one(-5), (-4, 0, 1)),
            ((0, 3, 3), one(-2), (-1, 0, 1)),
            (ALL_VALUES, one(10000), (0, 9999, 1)),
            (ALL_VALUES, one(-10000), (-9999, 0, 1)),
        ))

    def test_several_divisors(self):
        self.assert_ranges("mod", (
            (one(7), (1, 2, 1), (0, 1, 1)),
            (one(7), (2, 9, 7), (0, 8, 1)),
            (one(7), (-9, -2, 7), (-8, 0, 1)),
            (one(7), (-2, -1, 1), (-1, 0, 1)),
            (one(7), (-3, 4, 7), (-2, 3, 1)),
            (one(7), (-1, 2, 3), (0, 1, 1)),
            (one(7), (-2, 1, 3), (-1, 0, 1)),
            ((1, 3, 2), (10, 20, 10), (0, 19, 1)),
            (one(0), (2, 3, 1), (0, 2, 1)),
            ((0, 9, 3), (-1, 1, 2), one(0)),
        ))

    def test_zero_in_the_right_range(self):
        division = ("division",)
        self.assert_results("mod", (
            (one(7), one(0), (None, division)),
            (ALL_VALUES, one(0), (None, division)),
            (one(7), (0, 1, 1), (one(0), division)),
            (one(7), (-1, 0, 1), (one(0), division)),
            (one(7), (-1, 1, 1), (one(0), division)),
            (one(7), (0, 4, 2), ((0, 3, 1), division)),
            (one(7), (-4, 0, 2), ((-3, 0, 1), division)),
            (one(7), (-6, 9, 3), ((-5, 8, 1), division)),
            (ALL_VALUES, ALL_VALUES, ((-9999, 9999, 1), division)),
        ))


class Kinds(CombineCase):
    def test_division_is_told_of_quotients_and_remainders_only(self):
        for first in SMALL[::4]:
            for second in SMALL:
                zero = 0 in members(second)
                for sign in SIGNS:
                    kinds = ("division",) if zero and sign in ("/", "mod") else ()
                    self.assertEqual(combine(sign, first, second)[1], kinds)

    def test_zero_between_the_ends_is_not_enough(self):
        for sign in ("/", "mod"):
            self.assertEqual(combine(sign, one(1), (-1, 1, 2))[1], ())
            self.assertEqual(combine(sign, one(1), (-1, 2, 3))[1], ())

    def test_a_left_range_with_zero_tells_nothing(self):
        for sign in SIGNS:
            self.assertEqual(combine(sign, (-1, 1, 1), one(2))[1], ())

    def test_overflow_at_each_end(self):
        cases = (
            ("+", one(9999), one(1), ()), ("+", one(9999), one(2), ("overflow",)),
            ("+", one(-9999), one(-1), ()), ("+", one(-9999), one(-2), ("overflow",)),
            ("+", (-5, 9999, 4), (1, 2, 1), ("overflow",)), ("+", (-9999, 5, 4), (-2, 2, 1), ("overflow",)),
            ("-", one(9999), one(-1), ()), ("-", one(9999), one(-2), ("overflow",)),
            ("-", one(-9999), one(1), ()), ("-", one(-9999), one(2), ("overflow",)),
            ("*", one(5000), one(2), ()), ("*", one(5000), one(3), ("overflow",)),
            ("*", one(5000), one(-2), ()), ("*", one(-5000), one(3), ("overflow",)),
            ("/", ALL_VALUES, (-1, 1, 2), ()), ("mod", ALL_VALUES, (-10000, -9999, 1), ()),
        )
        for sign, first, second, kinds in cases:
            with self.subTest(sign, first=first, second=second):
                self.assertEqual(combine(sign, first, second)[1], kinds)


class SmallRanges(unittest.TestCase):
    """All operations on all ranges of small integers."""

    def test_every_result_lies_in_the_range(self):
        for sign in SIGNS:
            for first in SMALL:
                for second in SMALL:
                    found = results(sign, first, second)
                    span = combine(sign, first, second)[0]
                    if span is None:
                        self.assertEqual(found, [])
                    else:
                        self.assertLessEqual(set(found), set(members(span)), (sign, first, second))

    def test_sums_differences_and_products_are_the_least_ranges(self):
        for sign in ("+", "-", "*"):
            for first in SMALL:
                for second in SMALL:
                    wanted = least_range(results(sign, first, second))
                    self.assertEqual(combine(sign, first, second)[0], wanted, (sign, first, second))

    def test_quotients_have_the_ends_of_the_results_and_the_step_1(self):
        for first in SMALL:
            for second in SMALL:
                found = results("/", first, second)
                wanted = None
                if found:
                    wanted = (min(found), max(found), min(1, max(found) - min(found)))
                self.assertEqual(combine("/", first, second)[0], wanted, (first, second))

    def test_remainders_in_the_words_of_the_document(self):
        for first in small_ranges(-7, 6):
            for second in SMALL:
                wanted = self.remainder(first, second)
                self.assertEqual(combine("mod", first, second)[0], wanted, (first, second))

    def remainder(self, first, second):
        left, right = members(first), members(second)
        if right == [0]:
            return None
        if len(right) > 1:
            low, high = min(0, right[0] + 1), max(0, right[-1] - 1)
            return (low, high, 0 if low == high else 1)
        divisor = right[0]
        found = [n % divisor for n in left]
        steps = [b - a for a, b in zip(left, left[1:])]
        if all(step % divisor == 0 for step in steps):
            return one(found[0])
        if len({n // divisor for n in left}) == 1:
            return least_range(found)
        return (0, divisor - 1, 1) if divisor > 0 else (divisor + 1, 0, 1)


if __name__ == "__main__":
    unittest.main()
