"""Points 10 to 13: values, failures, steps, endings, traces."""

import random
import unittest

from carryclaim.machine import run, trace
from carryclaim.parser import parse
from carryclaim.programs import check_program, variables
from tests.interpreter import Interpreter
from tests.made import made_program

DONE = ("done",)
DEEP = ("deep",)
HALTED = ("halted",)
RUNNING = ("running",)
STARVED = ("starved",)


def program_of(text):
    """The program of a text; a text without procedures is the block of main."""
    if "proc" not in text:
        text = "proc main() { " + text + " }"
    program = parse(text)
    check_program(program)
    return program


def ran(text, inputs=(), limit=5000):
    return run(program_of(text), inputs, limit)


def traced(text, inputs=(), limit=5000):
    return trace(program_of(text), inputs, limit)


def failed(place, kind, procedure="main"):
    return ("failed", procedure, place, kind)


class MachineCase(unittest.TestCase):
    def assert_told(self, cases):
        """Pairs of an expression and its value, or the kind of its failure."""
        for expression, wanted in cases:
            result = (DONE, (wanted,))
            if isinstance(wanted, str):
                result = (failed("0", wanted), ())
            with self.subTest(expression):
                self.assertEqual(ran(f"tell {expression};"), result)

    def assert_ends(self, cases):
        """Triples of a text, inputs, and the whole result."""
        for text, inputs, wanted in cases:
            with self.subTest(text, inputs=inputs):
                self.assertEqual(ran(text, inputs), wanted)


class Values(MachineCase):
    def test_numbers(self):
        self.assert_told((("0", 0), ("-0", 0), ("10000", 10000), ("-10000", -10000)))

    def test_plus_minus_times(self):
        self.assert_told((
            ("(2 + 3)", 5), ("(2 + -3)", -1), ("(-2 + -3)", -5), ("(2 - 3)", -1), ("(2 - -3)", 5), ("(-2 - -3)", 1),
            ("(2 * 3)", 6), ("(2 * -3)", -6), ("(-2 * -3)", 6), ("(0 * -3)", 0),
        ))

    def test_quotients(self):
        self.assert_told((
            ("(7 / 2)", 3), ("(-7 / 2)", -4), ("(7 / -2)", -4), ("(-7 / -2)", 3),
            ("(6 / 2)", 3), ("(-6 / 2)", -3), ("(6 / -2)", -3), ("(-6 / -2)", 3),
            ("(1 / 2)", 0), ("(-1 / 2)", -1), ("(1 / -2)", -1), ("(-1 / -2)", 0), ("(0 / -2)", 0),
            ("(-10000 / -1)", 10000), ("(10000 / -1)", -10000), ("(1 / 10000)", 0), ("(-1 / 10000)", -1),
        ))

    def test_remainders(self):
        self.assert_told((
            ("(7 mod 2)", 1), ("(-7 mod 2)", 1), ("(7 mod -2)", -1), ("(-7 mod -2)", -1),
            ("(7 mod 5)", 2), ("(-7 mod 5)", 3), ("(7 mod -5)", -3), ("(-7 mod -5)", -2),
            ("(6 mod 3)", 0), ("(-6 mod 3)", 0), ("(6 mod -3)", 0), ("(0 mod -3)", 0),
            ("(1 mod 10000)", 1), ("(-1 mod 10000)", 9999), ("(1 mod -10000)", -9999), ("(-10000 mod 10000)", 0),
        ))

    def test_operations_in_operations(self):
        self.assert_told((
            ("((2 + 3) * (4 - 6))", -10), ("(20 - (3 * (7 / 2)))", 11), ("((20 - 3) - 4)", 13), ("(20 - (3 - 4))", 21),
        ))

    def test_all_small_values(self):
        numbers = range(-6, 7)
        text = "ask x; ask y; tell (x + y); tell (x - y); tell (x * y); tell (x / y); tell (x mod y);"
        program = program_of(text)
        for x in numbers:
            for y in numbers:
                told = (x + y, x - y, x * y)
                wanted = (failed("5", "division"), told)
                if y != 0:
                    wanted = (DONE, (*told, x // y, x - y * (x // y)))
                self.assertEqual(run(program, (x, y), 10), wanted)


class Failures(MachineCase):
    def test_division(self):
        self.assert_told((
            ("(1 / 0)", "division"), ("(0 / 0)", "division"), ("(-10000 / 0)", "division"),
            ("(1 mod 0)", "division"), ("(0 mod 0)", "division"), ("(1 / (2 - 2))", "division"),
        ))

    def test_overflow(self):
        self.assert_told((
            ("(9999 + 1)", 10000), ("(10000 + 1)", "overflow"), ("(10000 + 0)", 10000),
            ("(-9999 + -1)", -10000), ("(-10000 + -1)", "overflow"),
            ("(-9999 - 1)", -10000), ("(-10000 - 1)", "overflow"), ("(10000 - -1)", "overflow"), ("(0 - 10000)", -10000),
            ("(100 * 100)", 10000), ("(100 * -100)", -10000), ("(73 * 137)", "overflow"), ("(-73 * 137)", "overflow"),
            ("(10000 * 10000)", "overflow"), ("(-10000 * 1)", -10000),
        ))

    def test_a_part_that_is_too_large_fails_although_the_whole_is_not(self):
        self.assert_told((
            ("((10000 + 1) - 1)", "overflow"), ("(0 * (10000 + 1))", "overflow"), ("(5 - (-10000 - 1))", "overflow"),
        ))

    def test_the_left_part_fails_first(self):
        self.assert_told((
            ("((1 / 0) + (10000 + 1))", "division"), ("((10000 + 1) + (1 / 0))", "overflow"),
            ("((10000 + 1) / 0)", "overflow"), ("((1 mod 0) * (9999 * 2))", "division"),
            ("(((9999 * 2) - 1) / 0)", "overflow"), ("(1 / ((10000 + 1) * 0))", "overflow"),
        ))

    def test_each_statement_fails_at_its_place(self):
        cases = (
            ("x = (1 / 0);", "0"),
            ("ask y; tell (1 / 0);", "1"),
            ("return (1 / 0);", "0"),
            ("check (1 / 0) < 1;", "0"),
            ("need 1 < (1 / 0);", "0"),
            ("if (1 / 0) < 1 { ask y; }", "0"),
            ("if 1 < 1 { } else { if 0 < 1 { x = (1 / 0); } }", "0.1.0.0.0"),
            ("while (1 / 0) < 1 { ask y; }", "0"),
            ("while 0 < 1 { x = (x + 1); if x == 3 { tell (1 / 0); } }", "0.0.1.0.0"),
            ("call main() to x; x = 1;", None),
        )
        for text, place in cases:
            with self.subTest(text):
                wanted = DEEP if place is None else failed(place, "division")
                self.assertEqual(ran(text, (1,)), (wanted, ()))

    def test_a_while_that_fails_later(self):
        text = "x = 3; while 0 < (6 / x) { tell x; x = (x - 1); }"
        self.assertEqual(ran(text), (failed("1", "division"), (3, 2, 1)))

    def test_a_failure_in_a_call_tells_the_procedure(self):
        text = "proc main() { call f(0); } proc f(a) { tell a; tell (1 / a); }"
        self.assertEqual(ran(text), (failed("1", "division", "f"), (0,)))

    def test_expressions_of_a_call_fail_where_the_call_stands(self):
        text = "proc main() { tell 5; call f(1, (1 / 0), (9999 + 2)); } proc f(a, b, c) { tell a; }"
        self.assertEqual(ran(text), (failed("1", "division"), (5,)))
        text = "proc main() { tell 5; call f(1, (9999 + 2), (1 / 0)); } proc f(a, b, c) { tell a; }"
        self.assertEqual(ran(text), (failed("1", "overflow"), (5,)))

    def test_check(self):
        self.assert_ends((
            ("ask x; check x == 1; tell 2;", (1,), (DONE, (2,))),
            ("ask x; check x == 1; tell 2;", (2,), (failed("1", "check"), ())),
            ("check (1 / 0) == 1;", (), (failed("0", "division"), ())),
            ("check (10000 * 2) == (1 / 0);", (), (failed("0", "overflow"), ())),
        ))


class Conditions(MachineCase):
    def assert_truths(self, cases):
        for text, wanted in cases:
            with self.subTest(text):
                told = (1,) if wanted else (0,)
                self.assertEqual(ran("if " + text + " { tell 1; } else { tell 0; }"), (DONE, told))

    def test_comparisons(self):
        for first in (-2, -1, 0, 1):
            for second in (-1, 0, 1):
                self.assert_truths((
                    (f"{first} < {second}", first < second), (f"{first} <= {second}", first <= second),
                    (f"{first} == {second}", first == second), (f"{first} != {second}", first != second),
                ))

    def test_not(self):
        self.assert_truths((
            ("not 1 < 2", False), ("not 2 < 1", True), ("not not 1 < 2", True), ("not not not 1 < 2", False),
        ))

    def test_and_and_or(self):
        texts = {True: "1 < 2", False: "2 < 1"}
        for first in (True, False):
            for second in (True, False):
                left, right = texts[first], texts[second]
                self.assert_truths((
                    (f"[{left} and {right}]", first and second), (f"[{left} or {right}]", first or second),
                    (f"not [{left} and {right}]", not (first and second)),
                    (f"not [{left} or {right}]", not (first or second)),
                    (f"[not {left} and {right}]", not first and second),
                    (f"[{left} or not {right}]", first or not second),
                ))

    def test_both_parts_are_always_evaluated_the_left_one_first(self):
        division, overflow = (failed("0", "division"), ()), (failed("0", "overflow"), ())
        self.assert_ends((
            ("need [2 < 1 and (1 / 0) < 1];", (), division), ("need [1 < 2 or (1 / 0) < 1];", (), division),
            ("need [1 < 2 and (1 / 0) < 1];", (), division), ("need [2 < 1 or (1 / 0) < 1];", (), division),
            ("need [(1 / 0) < 1 and (9999 * 2) < 1];", (), division), ("need [(9999 * 2) < 1 or (1 / 0) < 1];", (), overflow),
            ("need not [(9999 * 2) < 1 and not (1 / 0) < 1];", (), overflow),
            ("need (1 / 0) < (9999 * 2);", (), division), ("need (9999 * 2) < (1 / 0);", (), overflow),
            ("need (9999 * 2) == (1 / 0);", (), overflow),
        ))


class Endings(MachineCase):
    def test_done(self):
        self.assert_ends((
            ("", (), (DONE, ())), ("tell 1; tell -2; tell 1;", (), (DONE, (1, -2, 1))), ("return 7;", (), (DONE, ())),
            ("tell 1; return 7; tell 2;", (), (DONE, (1,))), ("ask x;", (3, 4, 5), (DONE, ())),
        ))

    def test_ask_takes_the_inputs_in_their_order(self):
        self.assert_ends((
            ("ask x; ask y; ask x; tell x; tell y;", (3, -4, 10000), (DONE, (10000, -4))),
            ("proc main() { call f(); call f(); } proc f() { ask x; tell x; }", (8, 9), (DONE, (8, 9))),
        ))

    def test_starved(self):
        self.assert_ends((
            ("ask x;", (), (STARVED, ())), ("tell 1; ask x; tell x; ask x; tell x;", (5,), (STARVED, (1, 5))),
            ("while 0 < 1 { ask x; tell x; }", (1, 2), (STARVED, (1, 2))),
            ("proc main() { call f(); } proc f() { ask x; }", (), (STARVED, ())),
        ))

    def test_halted(self):
        self.assert_ends((
            ("need 1 < 2; tell 1;", (), (DONE, (1,))), ("tell 1; need 2 < 1; tell 2;", (), (HALTED, (1,))),
            ("proc main() { call f(); tell 1; } proc f() { need 2 < 1; }", (), (HALTED, ())),
        ))

    def test_running(self):
        for limit in (0, 1, 2, 3, 100, 5000):
            self.assertEqual(ran("while 0 < 1 { }", (), limit), (RUNNING, ()))
        self.assertEqual(ran("while 0 < 1 { tell 1; }", (), 5), (RUNNING, (1, 1)))
        self.assertEqual(ran("while 0 < 1 { tell 1; }", (), 4), (RUNNING, (1, 1)))
        self.assertEqual(ran("while 0 < 1 { tell 1; }", (), 3), (RUNNING, (1,)))

    def test_the_limit_at_the_last_step(self):
        text = "tell 1; tell 2; tell 3;"
        self.assertEqual(ran(text, (), 4), (DONE, (1, 2, 3)))
        self.assertEqual(ran(text, (), 3), (DONE, (1, 2, 3)))
        self.assertEqual(ran(text, (), 2), (RUNNING, (1, 2)))
        self.assertEqual(ran(text, (), 0), (RUNNING, ()))

    def test_the_limit_0(self):
        self.assertEqual(ran("", (), 0), (DONE, ()))
        for text in ("ask x;", "tell (1 / 0);", "need 2 < 1;", "check 2 < 1;", "return 1;", "call main();"):
            self.assertEqual(ran(text, (), 0), (RUNNING, ()))

    def test_two_endings_at_one_step(self):
        cases = (
            ("tell 1; ask x;", STARVED), ("tell 1; tell (1 / 0);", failed("1", "division")),
            ("tell 1; need 2 < 1;", HALTED), ("tell 1; check 2 < 1;", failed("1", "check")),
            ("tell 1; return 5;", DONE),
        )
        for text, wanted in cases:
            with self.subTest(text):
                self.assertEqual(ran(text, (), 1), (RUNNING, (1,)))
                self.assertEqual(ran(text, (), 2), (wanted, (1,)))
                self.assertEqual(ran(text, (), 3), (wanted, (1,)))

    def test_the_end_of_calls_at_the_limit(self):
        text = "proc main() { call f(); } proc f() { call g(); } proc g() { tell 1; }"
        self.assertEqual(ran(text, (), 3), (DONE, (1,)))
        self.assertEqual(ran(text, (), 2), (RUNNING, ()))
        text = "proc main() { call f(); tell 2; } proc f() { tell 1; }"
        self.assertEqual(ran(text, (), 2), (RUNNING, (1,)))
        self.assertEqual(ran(text, (), 3), (DONE, (1, 2)))


class Steps(MachineCase):
    def least_limit(self, text, inputs=()):
        """The number of steps that a run needs to be done."""
        limit = 0
        while ran(text, inputs, limit)[0] == RUNNING:
            limit += 1
        self.assertEqual(ran(text, inputs, limit)[0], DONE)
        self.assertEqual(len(traced(text, inputs, limit)), limit)
        return limit

    def test_steps(self):
        cases = (
            ("", 0), ("tell 1;", 1), ("x = 1; ask x; need 1 < 2; check 1 < 2; return 1;", 5),
            ("if 1 < 2 { }", 1), ("if 1 < 2 { } else { tell 1; }", 1), ("if 2 < 1 { } else { tell 1; tell 2; }", 3),
            ("while 2 < 1 { }", 1), ("while x < 3 { x = (x + 1); }", 7), ("while x < 1 { x = (x + 1); tell x; }", 4),
            ("while x < 2 { x = (x + 1); while y < 2 { y = (y + 1); } }", 11),
            ("proc main() { call f(); } proc f() { }", 1), ("proc main() { call f(); } proc f() { return 1; tell 1; }", 2),
            ("proc main() { call f(); call f(); tell 1; } proc f() { tell 1; tell 2; }", 7),
        )
        for text, wanted in cases:
            with self.subTest(text):
                self.assertEqual(self.least_limit(text, (1,)), wanted)


class Calls(MachineCase):
    def test_results(self):
        self.assert_ends((
            ("proc main() { call f() to x; tell x; } proc f() { return 7; tell 1; }", (), (DONE, (7,))),
            ("proc main() { x = 9; call f() to x; tell x; } proc f() { tell 1; }", (), (DONE, (1, 0))),
            ("proc main() { x = 9; call f(); tell x; } proc f() { return 7; }", (), (DONE, (9,))),
            ("proc main() { x = 9; call f() to x; tell x; } proc f() { }", (), (DONE, (0,))),
            ("proc main() { call f(3) to x; tell x; } proc f(a) { if a < 5 { return (a * 2); } return 1; }", (), (DONE, (6,))),
            ("proc main() { call f(5) to x; tell x; } proc f(a) { if a < 5 { return (a * 2); } return 1; }", (), (DONE, (1,))),
            ("proc main() { call f() to x; tell x; } proc f() { while 0 < 1 { return 4; } }", (), (DONE, (4,))),
        ))

    def test_the_target_is_a_global(self):
        self.assert_ends((
            ("global g; proc main() { call f() to g; tell g; } proc f() { g = 3; return (g + 1); }", (), (DONE, (4,))),
            ("global g; proc main() { g = 5; call f() to g; tell g; } proc f() { g = 3; }", (), (DONE, (0,))),
            ("global g; proc main() { g = 5; call f(); tell g; } proc f() { g = 3; return 4; }", (), (DONE, (3,))),
        ))

    def test_the_target_is_a_parameter(self):
        text = "proc main() { call f(1); } proc f(a) { if a < 3 { call f((a + 1)) to a; } tell a; return (a + 10); }"
        self.assertEqual(ran(text), (DONE, (3, 13, 23)))

    def test_the_target_is_the_name_that_the_callee_has_too(self):
        text = "proc main() { x = 1; call f(5) to x; tell x; } proc f(x) { x = (x + 1); return x; }"
        self.assertEqual(ran(text), (DONE, (6,)))
        text = "proc main() { x = 1; call f(5); tell x; } proc f(x) { x = (x + 1); return x; }"
        self.assertEqual(ran(text), (DONE, (1,)))

    def test_the_beginning_of_a_call(self):
        text = (
            "global g; proc main() { tell g; g = 4; x = 7; call f((g + 1), x); call f(1, 2); } "
            "proc f(b, a) { tell a; tell b; tell c; tell x; tell g; c = 8; x = 9; a = 3; g = (g + 1); }"
        )
        self.assertEqual(ran(text), (DONE, (0, 7, 5, 0, 0, 4, 2, 1, 0, 0, 5)))

    def test_each_call_has_locals_of_its_own(self):
        text = "proc main() { call f(3); } proc f(a) { y = a; if 0 < a { call f((a - 1)); } tell y; tell a; }"
        self.assertEqual(ran(text), (DONE, (0, 0, 1, 1, 2, 2, 3, 3)))

    def test_main_can_be_called(self):
        text = "global g; proc main() { g = (g + 1); x = g; if g < 3 { call main() to y; } tell x; tell y; return 5; }"
        self.assertEqual(ran(text), (DONE, (3, 0, 2, 5, 1, 5)))

    def test_twelve_calls_are_open_at_most(self):
        text = "proc main() { call f(2); } proc f(n) { tell n; if n < LAST { call f((n + 1)); } tell (0 - n); }"
        told = tuple(range(2, 13)) + tuple(range(-12, -1))
        self.assertEqual(ran(text.replace("LAST", "12")), (DONE, told))
        self.assertEqual(ran(text.replace("LAST", "13")), (DEEP, tuple(range(2, 13))))

    def test_calls_that_ended_do_not_count(self):
        text = "proc main() { while x < 50 { call f() to y; x = (x + y); } tell x; } proc f() { call h(); return 1; } proc h() { }"
        self.assertEqual(ran(text), (DONE, (50,)))

    def test_main_without_end(self):
        self.assertEqual(ran("tell 1; call main();"), (DEEP, (1,) * 12))
        self.assertEqual(ran("tell 1; call main();", (), 24), (DEEP, (1,) * 12))
        self.assertEqual(ran("tell 1; call main();", (), 23), (RUNNING, (1,) * 12))

    def test_the_expressions_of_a_call_that_is_too_deep_are_evaluated(self):
        text = "proc main() { call f(11); } proc f(n) { call f(((n - 1) + (0 * (1 / n)))); }"
        self.assertEqual(ran(text), (DEEP, ()))
        text = text.replace("f(11)", "f(10)")
        self.assertEqual(ran(text), (failed("0", "division", "f"), ()))


class Traces(MachineCase):
    def test_the_example_of_the_document(self):
        text = (
            "global g; proc main() { ask x; need 0 < x; while g < 10 { g = (g + 2); } check g == 10; tell (100 / x); }"
        )
        rounds = []
        for g in (0, 2, 4, 6, 8):
            rounds += [("main", "2", (g, 7)), ("main", "2.0.0", (g, 7))]
        wanted = (
            ("main", "0", (0, 0)), ("main", "1", (0, 7)), *rounds,
            ("main", "2", (10, 7)), ("main", "3", (10, 7)), ("main", "4", (10, 7)),
        )
        self.assertEqual(traced(text, (7,)), wanted)
        self.assertEqual(ran(text, (7,)), (DONE, (14,)))
        self.assertEqual(ran(text, (-7,)), (HALTED, ()))

    def test_variables_stand_in_their_order(self):
        text = (
            "global z; global b; proc main() { y = 1; z = 2; a = 3; b = 4; call f(5, 6) to m; z = m; } "
            "proc f(q, c) { k = (q - c); b = 7; return 8; }"
        )
        self.assertEqual(variables(program_of(text), "main"), ("z", "b", "a", "m", "y"))
        self.assertEqual(variables(program_of(text), "f"), ("z", "b", "c", "k", "q"))
        self.assertEqual(traced(text), (
            ("main", "0", (0, 0, 0, 0, 0)),
            ("main", "1", (0, 0, 0, 0, 1)),
            ("main", "2", (2, 0, 0, 0, 1)),
            ("main", "3", (2, 0, 3, 0, 1)),
            ("main", "4", (2, 4, 3, 0, 1)),
            ("f", "0", (2, 4, 6, 0, 5)),
            ("f", "1", (2, 4, 6, -1, 5)),
            ("f", "2", (2, 7, 6, -1, 5)),
            ("main", "5", (2, 7, 3, 8, 1)),
        ))

    def test_nothing_is_traced_without_a_step(self):
        self.assertEqual(traced(""), ())
        self.assertEqual(traced("tell 1;", (), 0), ())

    def test_the_last_step(self):
        cases = (
            ("x = 4; tell (x / 0);", (("main", "0", (0,)), ("main", "1", (4,)))),
            ("x = 4; ask x; tell x;", (("main", "0", (0,)), ("main", "1", (4,)))),
            ("x = 4; need x < 1; tell x;", (("main", "0", (0,)), ("main", "1", (4,)))),
            ("x = 4; check x < 1; tell x;", (("main", "0", (0,)), ("main", "1", (4,)))),
            ("x = 4; return x; tell x;", (("main", "0", (0,)), ("main", "1", (4,)))),
        )
        for text, wanted in cases:
            with self.subTest(text):
                self.assertEqual(traced(text), wanted)
                self.assertEqual(traced(text, (), 2), wanted)
                self.assertEqual(traced(text, (), 1), wanted[:1])

    def test_a_call_that_is_too_deep(self):
        steps = traced("proc main() { call f(1); } proc f(n) { call f((n + 1)); }")
        self.assertEqual(steps, (("main", "0", ()), *(("f", "0", (n,)) for n in range(1, 12))))
        self.assertEqual(len(steps), 12)

    def test_places_in_blocks(self):
        text = "while x < 2 { if x < 1 { } else { tell x; } x = (x + 1); }"
        self.assertEqual(traced(text), (
            ("main", "0", (0,)), ("main", "0.0.0", (0,)), ("main", "0.0.1", (0,)),
            ("main", "0", (1,)), ("main", "0.0.0", (1,)), ("main", "0.0.0.1.0", (1,)), ("main", "0.0.1", (1,)),
            ("main", "0", (2,)),
        ))

    def test_an_empty_while(self):
        self.assertEqual(traced("while 0 < 1 { }", (), 3), (("main", "0", ()),) * 3)


class MadePrograms(unittest.TestCase):
    def test_against_the_interpreter(self):
        chance = random.Random(12)
        endings = {}
        for number in range(1200):
            program = made_program(number)
            inputs = tuple(chance.choice((-10000, -3, -1, 0, 1, 2, 5, 9999)) for _ in range(chance.randint(0, 12)))
            limit = chance.choice((0, 1, 5, 20, 400))
            other = Interpreter(program, inputs, limit)
            with self.subTest(number):
                self.assertEqual(run(program, inputs, limit), (other.ending, tuple(other.told)))
                self.assertEqual(trace(program, inputs, limit), tuple(other.steps))
            endings[other.ending[0]] = endings.get(other.ending[0], 0) + 1
        self.assertEqual(sorted(endings), ["deep", "done", "failed", "halted", "running", "starved"])
        self.assertGreater(min(endings.values()), 5)


if __name__ == "__main__":
    unittest.main()
