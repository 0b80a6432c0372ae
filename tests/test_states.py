"""Points 20 to 22: states, ranges of expressions, and what a condition tells."""

import itertools
import random
import unittest

from carryclaim.parser import parse
from carryclaim.states import assume, condition_kinds, state_join, state_within, value_range
from tests.small import members, small_ranges

ALL_VALUES = (-10000, 10000, 1)
DIVISION = ("division",)
OVERFLOW = ("overflow",)
BOTH = ("division", "overflow")


def one(n):
    return (n, n, 0)


def expression(text):
    return parse("proc main() { tell " + text + "; }")[1][0][2][0][1]


def condition(text):
    return parse("proc main() { need " + text + "; }")[1][0][2][0][1]


def state(**ranges):
    return tuple(ranges.items())


class States(unittest.TestCase):
    def test_within_with_one_variable(self):
        wide, narrow = state(x=(0, 10, 2)), state(x=(2, 6, 4))
        self.assertIs(state_within(narrow, wide), True)
        self.assertIs(state_within(wide, narrow), False)
        self.assertIs(state_within(wide, wide), True)

    def test_within_with_several_variables(self):
        wide = state(g=(0, 10, 1), x=(0, 10, 2), y=one(3))
        cases = (
            ((0, 10, 1), (0, 10, 2), one(3), True),
            (one(4), (2, 6, 2), one(3), True),
            ((0, 11, 1), (0, 10, 2), one(3), False),
            ((0, 10, 1), (0, 10, 1), one(3), False),
            ((0, 10, 1), (0, 10, 2), one(4), False),
            ((-1, 11, 1), (1, 3, 2), (3, 4, 1), False),
        )
        for g, x, y, wanted in cases:
            self.assertIs(state_within(state(g=g, x=x, y=y), wide), wanted)

    def test_no_variables(self):
        self.assertIs(state_within((), ()), True)
        self.assertEqual(state_join((), ()), ())

    def test_join(self):
        first = state(g=(0, 4, 2), x=one(1), y=one(3))
        second = state(g=one(6), x=one(5), y=one(3))
        wanted = state(g=(0, 6, 2), x=(1, 5, 4), y=one(3))
        self.assertEqual(state_join(first, second), wanted)
        self.assertEqual(state_join(second, first), wanted)
        self.assertEqual(state_join(first, first), first)

    def test_an_exit_state_with_a_global_called_result(self):
        first = (("result", one(1)), ("g", one(2)), ("result", one(3)))
        second = (("result", one(5)), ("g", one(2)), ("result", one(4)))
        wanted = (("result", (1, 5, 4)), ("g", one(2)), ("result", (3, 4, 1)))
        self.assertEqual(state_join(first, second), wanted)
        self.assertIs(state_within(first, second), False)
        self.assertIs(state_within(first, wanted), True)
        other = (("result", (1, 5, 1)), ("g", one(2)), ("result", one(4)))
        self.assertIs(state_within(first, other), False)
        other = (("result", one(4)), ("g", one(2)), ("result", (1, 5, 1)))
        self.assertIs(state_within(first, other), False)


class ValueRange(unittest.TestCase):
    STATE = state(g=(0, 6, 3), x=(-2, 2, 1), y=one(0), z=(9000, 10000, 500))

    def assert_ranges(self, cases):
        for text, *wanted in cases:
            with self.subTest(text):
                self.assertEqual(value_range(self.STATE, expression(text)), tuple(wanted))

    def test_numbers_and_names(self):
        self.assert_ranges((
            ("0", one(0), ()), ("-10000", one(-10000), ()), ("7", one(7), ()),
            ("g", (0, 6, 3), ()), ("x", (-2, 2, 1), ()), ("y", one(0), ()), ("z", (9000, 10000, 500), ()),
        ))

    def test_one_operation(self):
        self.assert_ranges((
            ("(g + 1)", (1, 7, 3), ()),
            ("(1 - g)", (-5, 1, 3), ()),
            ("(g * x)", (-12, 12, 3), ()),
            ("(g / 3)", (0, 2, 1), ()),
            ("(g mod 3)", one(0), ()),
            ("(3 / g)", (0, 1, 1), DIVISION),
            ("(g mod x)", (-1, 1, 1), DIVISION),
            ("(z + g)", (9000, 10000, 1), OVERFLOW),
            ("(z + 200)", (9200, 9700, 500), OVERFLOW),
            ("(z + z)", None, OVERFLOW),
            ("(g / 0)", None, DIVISION),
            ("(g mod y)", None, DIVISION),
        ))

    def test_operations_in_operations(self):
        self.assert_ranges((
            ("((g + 1) * (x - 2))", (-28, 0, 1), ()),
            ("((g + g) - (g - 3))", (-3, 15, 3), ()),
            ("(1 + (2 * (g / 3)))", (1, 5, 2), ()),
            ("((7 / x) + (7 mod x))", (-8, 8, 1), DIVISION),
        ))

    def test_kinds_stand_in_their_order_and_once(self):
        self.assert_ranges((
            ("((z + 500) + (1 / x))", (9499, 10000, 1), BOTH),
            ("((1 / x) + (z + 500))", (9499, 10000, 1), BOTH),
            ("((1 / x) + (1 / x))", (-2, 2, 1), DIVISION),
            ("((z + 500) - (z + 500))", (-500, 500, 500), OVERFLOW),
            ("((z + 500) / x)", (-10000, 10000, 1), BOTH),
            ("((z + 500) / (z + 500))", (0, 1, 1), OVERFLOW),
            ("(((z + 500) / x) + ((z + 500) mod x))", (-10000, 10000, 1), BOTH),
        ))

    def test_a_left_part_without_a_range(self):
        self.assert_ranges((
            ("((1 / 0) + 1)", None, DIVISION),
            ("((1 / 0) + (z + 500))", None, DIVISION),
            ("((z + z) + (1 / x))", None, OVERFLOW),
            ("((z + z) / 0)", None, OVERFLOW),
            ("((1 mod y) / 0)", None, DIVISION),
            ("(((1 / 0) + 1) + (z + z))", None, DIVISION),
        ))

    def test_a_right_part_without_a_range(self):
        self.assert_ranges((
            ("(1 + (1 / 0))", None, DIVISION),
            ("((z + 500) + (1 / 0))", None, BOTH),
            ("((1 / x) + (z + z))", None, BOTH),
            ("((1 / x) + (1 / 0))", None, DIVISION),
            ("(z + (z + z))", None, OVERFLOW),
            ("(0 / (z + z))", None, OVERFLOW),
            ("(1 / (1 / y))", None, DIVISION),
        ))

    def test_an_operation_of_parts_that_can_fail(self):
        self.assert_ranges((
            ("((1 / x) / 0)", None, DIVISION),
            ("((z + 500) / 0)", None, BOTH),
            ("((z + 500) + (z + 500))", None, OVERFLOW),
        ))

    def test_the_state_of_no_variables(self):
        self.assertEqual(value_range((), expression("(2 * 3)")), (one(6), ()))


class ConditionKinds(unittest.TestCase):
    STATE = state(x=(-2, 2, 1), z=(9000, 10000, 500))

    def assert_kinds(self, cases):
        for text, wanted in cases:
            with self.subTest(text):
                self.assertEqual(condition_kinds(self.STATE, condition(text)), wanted)

    def test_without_kinds(self):
        self.assert_kinds((
            ("x < z", ()), ("not (x + 1) == 1", ()), ("[x < 1 and [not x < 2 or (1 + x) < (z - 1)]]", ()),
        ))

    def test_each_expression_is_looked_at(self):
        for relation in ("<", "<=", "==", "!="):
            self.assert_kinds((
                (f"(1 / x) {relation} 1", DIVISION), (f"1 {relation} (1 / x)", DIVISION),
                (f"(z + 500) {relation} 1", OVERFLOW), (f"1 {relation} (z + 500)", OVERFLOW),
                (f"not not not 1 {relation} (1 mod x)", DIVISION),
            ))
        for word in ("and", "or"):
            self.assert_kinds((
                (f"[1 < (1 / x) {word} 1 < 1]", DIVISION), (f"[1 < 1 {word} (1 / x) < 1]", DIVISION),
                (f"[1 < 1 {word} not [1 < (z + 500) {word} 1 < 1]]", OVERFLOW),
            ))

    def test_kinds_stand_in_their_order_and_once(self):
        self.assert_kinds((
            ("(z + 500) < (1 / x)", BOTH), ("(1 / x) < (z + 500)", BOTH), ("(1 / x) < (1 / x)", DIVISION),
            ("[(z + 500) < 1 and (1 / x) == 1]", BOTH), ("[(z + 500) < 1 or (z + 500) < 1]", OVERFLOW),
            ("[((z + 500) / x) < 1 or (z + 500) < (1 / x)]", BOTH),
        ))

    def test_what_stands_behind_an_expression_without_a_range(self):
        self.assert_kinds((
            ("(1 / 0) < (z + 500)", DIVISION), ("(z + z) < (1 / x)", OVERFLOW), ("(z + 500) < (1 / 0)", BOTH),
            ("[1 < (1 / 0) or (z + 500) < 1]", DIVISION), ("[(z + z) < 1 and (1 / x) < 1]", OVERFLOW),
            ("[1 < 2 and [x < (z + z) or (1 / x) < 1]]", OVERFLOW),
            ("[(1 / x) < 1 and [x < (z + z) or (1 / x) < 1]]", BOTH),
            ("not (1 / 0) < (z + z)", DIVISION),
            ("((1 / 0) + (z + z)) < 1", DIVISION), ("((z + z) / 0) < (1 / 0)", OVERFLOW),
        ))

    def test_all_of_it_is_asked_in_the_given_state(self):
        # Where x is 1 nothing fails, but that is known only behind the left condition.
        self.assert_kinds((
            ("[x == 1 and (1 / x) == 1]", DIVISION), ("[1 < 0 and (1 / x) == 1]", DIVISION),
        ))


class Assume(unittest.TestCase):
    def assert_assumed(self, given, cases):
        """Cases (condition, state), where the state is None or a dict of what changes."""
        for text, wanted in cases:
            if wanted is not None:
                wanted = tuple({**dict(given), **wanted}.items())
            with self.subTest(text):
                self.assertEqual(assume(given, condition(text)), wanted)

    def test_a_name_on_the_left(self):
        self.assert_assumed(state(g=one(1), x=(0, 12, 3)), (
            ("x < 7", {"x": (0, 6, 3)}), ("x < 6", {"x": (0, 3, 3)}), ("x < 3", {"x": one(0)}), ("x < 0", None),
            ("x < 13", {}), ("x < 12", {"x": (0, 9, 3)}), ("x < -10000", None),
            ("x <= 7", {"x": (0, 6, 3)}), ("x <= 6", {"x": (0, 6, 3)}), ("x <= 0", {"x": one(0)}), ("x <= -1", None),
            ("x == 6", {"x": one(6)}), ("x == 0", {"x": one(0)}), ("x == 12", {"x": one(12)}),
            ("x == 7", None), ("x == -3", None), ("x == 15", None),
            ("x != 0", {"x": (3, 12, 3)}), ("x != 12", {"x": (0, 9, 3)}), ("x != 6", {}), ("x != 7", {}), ("x != 15", {}),
            ("g != 1", None), ("g != 2", {}), ("g == 1", {}), ("g < 1", None), ("g <= 1", {}),
        ))

    def test_a_name_on_the_right(self):
        self.assert_assumed(state(x=(0, 12, 3), g=one(1)), (
            ("7 < x", {"x": (9, 12, 3)}), ("6 < x", {"x": (9, 12, 3)}), ("9 < x", {"x": one(12)}), ("12 < x", None),
            ("-1 < x", {}), ("0 < x", {"x": (3, 12, 3)}), ("10000 < x", None),
            ("7 <= x", {"x": (9, 12, 3)}), ("6 <= x", {"x": (6, 12, 3)}), ("12 <= x", {"x": one(12)}), ("13 <= x", None),
            ("6 == x", {"x": one(6)}), ("7 == x", None), ("0 == x", {"x": one(0)}), ("15 == x", None),
            ("0 != x", {"x": (3, 12, 3)}), ("12 != x", {"x": (0, 9, 3)}), ("6 != x", {}), ("7 != x", {}),
            ("1 != g", None), ("2 != g", {}),
        ))

    def test_names_on_both_sides(self):
        self.assert_assumed(state(x=(0, 12, 3), y=(-4, 8, 2)), (
            ("x < y", {"x": (0, 6, 3), "y": (2, 8, 2)}),
            ("y < x", {"x": (0, 12, 3)}),
            ("x <= y", {"x": (0, 6, 3), "y": (0, 8, 2)}),
            ("y <= x", {}),
            ("x == y", {"x": (0, 6, 3), "y": (0, 6, 2)}),
            ("y == x", {"y": (0, 8, 2), "x": (0, 6, 3)}),
            ("x != y", {}),
        ))
        self.assert_assumed(state(x=(0, 12, 3), y=one(12)), (
            ("x < y", {"x": (0, 9, 3)}), ("y < x", None), ("y <= x", {"x": one(12)}), ("x <= y", {}),
            ("x == y", {"x": one(12)}), ("y == x", {"x": one(12)}),
            ("x != y", {"x": (0, 9, 3)}), ("y != x", {"x": (0, 9, 3)}),
        ))

    def test_the_right_range_is_cut_by_the_left_one_that_was_cut(self):
        self.assert_assumed(state(x=(0, 12, 4), y=(1, 11, 1)), (
            ("x == y", {"x": (4, 8, 4), "y": (4, 8, 1)}),
            ("y == x", {"x": (4, 8, 4), "y": (1, 11, 1)}),
        ))
        self.assert_assumed(state(x=(0, 3, 3), y=(3, 9, 3)), (
            ("x == y", {"x": one(3), "y": one(3)}),
            ("y != x", {}),
        ))
        self.assert_assumed(state(x=(0, 9, 9), y=(1, 8, 1)), (
            ("x == y", None), ("y == x", None),
        ))
        self.assert_assumed(state(x=(0, 3, 3), y=one(3)), (
            ("x != y", {"x": one(0)}), ("y != x", {"x": one(0)}),
        ))
        # y is cut to 3 alone, and only then is x cut by it.
        self.assert_assumed(state(y=(3, 10, 7), x=(1, 8, 1)), (
            ("y == x", {"y": one(3), "x": one(3)}),
        ))

    def test_two_ranges_that_are_one_integer(self):
        self.assert_assumed(state(x=one(3), y=one(3), z=one(4)), (
            ("x == y", {}), ("x != y", None), ("x < y", None), ("x <= y", {}),
            ("x == z", None), ("x != z", {}), ("x < z", {}), ("z < x", None), ("x <= z", {}), ("z <= x", None),
        ))

    def test_the_same_name_on_both_sides(self):
        self.assert_assumed(state(x=(0, 6, 2), y=one(5)), (
            ("x < x", {"x": (2, 6, 2)}), ("x <= x", {}), ("x == x", {}), ("x != x", {}),
            ("y < y", None), ("y <= y", {}), ("y == y", {}), ("y != y", None),
            ("not x < x", {}), ("not x <= x", {"x": (2, 6, 2)}),
        ))

    def test_neither_side_is_a_name(self):
        self.assert_assumed(state(x=(0, 6, 2)), (
            ("1 < 2", {}), ("2 < 1", None), ("1 < 1", None), ("1 <= 1", {}), ("2 <= 1", None),
            ("1 == 1", {}), ("1 == 2", None), ("1 != 2", {}), ("1 != 1", None),
            ("(x + 1) < 2", {}), ("(x + 1) < 1", None), ("(x + 1) == 2", None), ("(x + 1) != 2", {}),
        ))

    def test_a_name_and_an_expression(self):
        self.assert_assumed(state(x=(0, 6, 2), y=(0, 10, 1)), (
            ("y < (x + 1)", {"y": (0, 6, 1)}), ("(x + 1) < y", {"y": (2, 10, 1)}), ("(x - 1) == y", {"y": (1, 5, 1)}),
            ("x < (x - 3)", {"x": (0, 2, 2)}), ("(x * 2) <= x", {}), ("x == (x + 4)", {"x": (4, 6, 2)}),
        ))

    def test_expressions_without_a_range(self):
        given = state(x=(0, 6, 2), y=one(0), z=(9000, 10000, 500))
        parts = ("(1 / 0)", "(1 / y)", "(z + z)", "((1 mod 0) + x)", "(x + (z + z))")
        for part in parts:
            self.assert_assumed(given, [
                (text.replace("?", part), None)
                for text in (
                    "? < 1", "1 < ?", "x != ?", "not ? <= x", "[x < 9 and ? < 1]", "[? == 1 and x < 9]",
                    "[x < 9 or 1 < ?]", "[? < 1 or x < 9]", "not [x < 9 or not ? < 1]", "not not [0 < 1 or 0 < ?]",
                    "[0 < 1 or [0 < 1 or [0 < 1 and ? != ?]]]",
                )
            ])

    def test_expressions_that_can_fail_are_no_matter(self):
        self.assert_assumed(state(x=(0, 6, 2), z=(9000, 10000, 500)), (
            ("(1 / x) < 1", {}), ("(z + 500) < 9600", {}), ("x < (1 / x)", None), ("x <= (1 / x)", {"x": one(0)}),
        ))

    def test_and(self):
        self.assert_assumed(state(x=(0, 9, 1), y=(0, 9, 1)), (
            ("[x < 5 and 2 < x]", {"x": (3, 4, 1)}), ("[2 < x and x < 5]", {"x": (3, 4, 1)}),
            ("[x < 5 and y < 3]", {"x": (0, 4, 1), "y": (0, 2, 1)}),
            ("[x < 5 and 5 < x]", None), ("[x < 0 and y < 3]", None), ("[y < 3 and x < 0]", None),
            ("[x == 3 and y == x]", {"x": one(3), "y": one(3)}),
            ("[y == x and x == 3]", {"x": one(3)}),
            ("[x == 3 and (x + y) < 3]", None),
            ("[(x + y) < 3 and x == 3]", {"x": one(3)}),
        ))

    def test_or(self):
        self.assert_assumed(state(x=(0, 9, 1), y=(0, 9, 1)), (
            ("[x < 2 or 7 < x]", {}), ("[x < 2 or x < 5]", {"x": (0, 4, 1)}),
            ("[x == 2 or x == 8]", {"x": (2, 8, 6)}), ("[x == 8 or [x == 2 or x == 5]]", {"x": (2, 8, 3)}),
            ("[x < 0 or x == 4]", {"x": one(4)}), ("[x == 4 or x < 0]", {"x": one(4)}),
            ("[x < 0 or 9 < y]", None),
            ("[x == 1 or y == 1]", {}), ("[[x == 1 and y == 3] or [x == 5 and y == 3]]", {"x": (1, 5, 4), "y": one(3)}),
        ))

    def test_not_of_comparisons(self):
        self.assert_assumed(state(x=(0, 9, 1), y=(4, 20, 1)), (
            ("not x < 5", {"x": (5, 9, 1)}), ("not 5 < x", {"x": (0, 5, 1)}), ("not x <= 5", {"x": (6, 9, 1)}),
            ("not 5 <= x", {"x": (0, 4, 1)}), ("not x == 9", {"x": (0, 8, 1)}), ("not x != 9", {"x": one(9)}),
            ("not x == 5", {}), ("not x < 10", None), ("not 0 <= x", None),
            ("not x < y", {"x": (4, 9, 1), "y": (4, 9, 1)}), ("not y <= x", {"y": (4, 20, 1)}),
            ("not x <= y", {"x": (5, 9, 1), "y": (4, 8, 1)}), ("not x != y", {"x": (4, 9, 1), "y": (4, 9, 1)}),
        ))

    def test_the_opposite_of_an_order_has_its_sides_exchanged(self):
        # "not x <= x" is "x < x", where the right range is the one that stays.
        self.assert_assumed(state(x=(0, 9, 1)), (("not x <= x", {"x": (1, 9, 1)}), ("not x < x", {})))
        # "not x < y" is "y <= x": y is cut first, and then x by the rest of y.
        self.assert_assumed(state(x=(0, 10, 5), y=(4, 19, 5)), (
            ("not x < y", {"x": (5, 10, 5), "y": (4, 9, 5)}),
        ))

    def test_several_nots(self):
        given = state(x=(0, 9, 1))
        for many in range(13):
            wanted = {"x": (0, 4, 1)} if many % 2 == 0 else {"x": (5, 9, 1)}
            self.assert_assumed(given, (("not " * many + "x < 5", wanted),))

    def test_not_of_and_and_or(self):
        self.assert_assumed(state(x=(0, 9, 1), y=(0, 9, 1)), (
            ("not [x < 5 and y < 3]", {}),
            ("not [x < 5 and x < 7]", {"x": (5, 9, 1)}),
            ("not [x < 5 and 2 < x]", {}),
            ("not [0 <= x and y < 3]", {"y": (3, 9, 1)}),
            ("not [y < 3 and 0 <= x]", {"y": (3, 9, 1)}),
            ("not [0 <= x and 0 <= y]", None),
            ("not [x < 5 or y < 3]", {"x": (5, 9, 1), "y": (3, 9, 1)}),
            ("not [x < 5 or not x < 7]", {"x": (5, 6, 1)}),
            ("not [x < 5 or 4 < x]", None),
            ("not [x != 3 or not y == x]", {"x": one(3), "y": one(3)}),
            ("not [not y == x or x != 3]", {"x": one(3)}),
            ("not not [x < 5 and y < 3]", {"x": (0, 4, 1), "y": (0, 2, 1)}),
            ("not not [x == 3 or x == 5]", {"x": (3, 5, 2)}),
            ("not [not x == 3 and not [x == 5 and y < 1]]", {"x": (3, 5, 2)}),
            ("[not [x < 5 or y < 3] and not [x == 9 or y == 9]]", {"x": (5, 8, 1), "y": (3, 8, 1)}),
        ))

    def test_an_expression_that_loses_its_range_on_the_way(self):
        # In the given state 4 / x has a range; where x is 0 it has none.
        given = state(x=(0, 4, 1), y=(0, 9, 1))
        self.assert_assumed(given, (
            ("[x == 0 and (4 / x) < 9]", None), ("[x == 0 and 9 < (4 / x)]", None), ("[x == 0 and y != (4 / x)]", None),
            ("[x == 0 and [(4 / x) < 9 or y < 5]]", {"x": one(0), "y": (0, 4, 1)}),
            ("[x == 0 and [y < 5 or (4 / x) < 9]]", {"x": one(0), "y": (0, 4, 1)}),
            ("[x == 0 and not [y < 5 or (4 / x) < 9]]", None),
            ("[[x == 0 and (4 / x) == 1] or y == 7]", {"y": one(7)}),
            ("[y == 7 or [x == 0 and (4 / x) == 1]]", {"y": one(7)}),
        ))

    def test_the_order_of_the_variables_stays(self):
        given = (("z", (0, 9, 1)), ("a", (0, 9, 1)), ("m", (0, 9, 1)))
        wanted = (("z", (0, 9, 1)), ("a", (0, 1, 1)), ("m", (2, 9, 1)))
        self.assertEqual(assume(given, condition("[a < 2 and 1 < m]")), wanted)
        self.assertEqual(assume((), condition("1 < 2")), ())
        self.assertIsNone(assume((), condition("2 < 1")))


class Sound(unittest.TestCase):
    """Values within a state for which a condition is true lie in what is assumed."""

    LEFT = ("x", "y", "1", "(x + 1)", "(y * 2)", "(2 / x)")
    RIGHT = ("x", "y", "2", "(x - y)", "(3 mod y)")

    def check(self, given, text):
        """Compare what is assumed with all values of the state, one by one."""
        wanted = condition(text)
        found = assume(given, wanted)
        names = [name for name, _ in given]
        for numbers in itertools.product(*[members(span) for _, span in given]):
            if true_for(dict(zip(names, numbers)), wanted):
                self.assertIsNotNone(found, (given, text))
                for n, (_, span) in zip(numbers, found):
                    self.assertIn(n, members(span), (given, text))

    def test_comparisons(self):
        ranges = small_ranges(-2, 2)
        for left, right in itertools.product(self.LEFT, self.RIGHT):
            for relation in ("<", "<=", "==", "!="):
                for x, y in itertools.product(ranges[::2], ranges[1::3]):
                    self.check(state(x=x, y=y), f"{left} {relation} {right}")

    def test_made_conditions(self):
        chance = random.Random(22)
        ranges = small_ranges(-3, 3)
        for _ in range(3000):
            given = state(x=chance.choice(ranges), y=chance.choice(ranges))
            self.check(given, self.made(chance, 2))

    def made(self, chance, depth):
        nots = "not " * chance.randint(0, 2)
        if depth > 0 and chance.random() < 0.7:
            left, right = self.made(chance, depth - 1), self.made(chance, depth - 1)
            return nots + "[" + left + chance.choice((" and ", " or ")) + right + "]"
        relation = chance.choice((" < ", " <= ", " == ", " != "))
        return nots + chance.choice(self.LEFT) + relation + chance.choice(self.RIGHT)


def true_for(values, part):
    """Whether a condition is true for values; None if one of its expressions fails."""
    word = part[0]
    if word == "not":
        inner = true_for(values, part[1])
        return None if inner is None else not inner
    if word == "compare":
        left, right = value_of(values, part[2]), value_of(values, part[3])
        if left is None or right is None:
            return None
        return {"<": left < right, "<=": left <= right, "==": left == right, "!=": left != right}[part[1]]
    left, right = true_for(values, part[1]), true_for(values, part[2])
    if left is None or right is None:
        return None
    return left and right if word == "and" else left or right


def value_of(values, part):
    """The value of an expression of small numbers, or None if it fails."""
    if part[0] == "number":
        return part[1]
    if part[0] == "name":
        return values[part[1]]
    left, right = value_of(values, part[2]), value_of(values, part[3])
    if left is None or right is None or right == 0 and part[1] in ("/", "mod"):
        return None
    if part[1] == "/":
        return left // right
    if part[1] == "mod":
        return left - right * (left // right)
    return {"+": left + right, "-": left - right, "*": left * right}[part[1]]


if __name__ == "__main__":
    unittest.main()
