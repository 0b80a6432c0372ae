"""Points 24 to 26: ways, complaints and claims."""

import unittest

from carryclaim.judging import claims, judge, ways
from carryclaim.papers import blank_paper, state_at
from carryclaim.parser import parse
from carryclaim.solving import solve
from carryclaim.states import state_within
from tests.made import made_paper, made_program

ZERO = (0, 0, 0)
ALL_VALUES = (-10000, 10000, 1)


def one(n):
    return (n, n, 0)


def state(**ranges):
    return tuple(ranges.items())


def exit_state(result, **ranges):
    return (*ranges.items(), ("result", result))


def paper_with(program, *rows):
    """The blank paper with other states at some places."""
    changed = {row[:2]: row[2] for row in rows}
    return tuple((name, place, changed.get((name, place), old)) for name, place, old in blank_paper(program))


class WaysOut(unittest.TestCase):
    def assert_ways(self, body, place, given, *wanted, head="global g;"):
        """The ways out of a place of main, if its state is given."""
        program = parse(head + " proc main() { " + body + " }")
        found = ways(program, paper_with(program, ("main", place, given)), "main", place)
        self.assertEqual(found, tuple((way, "main", target, led) for way, target, led in wanted))

    def test_a_place_whose_state_is_none_has_none(self):
        program = parse(
            "proc main() { ask x; tell x; check x < 1; need x < 1; if x < 1 { } while x < 1 { } call main(); return x; }"
        )
        paper = tuple((name, place, None) for name, place, _ in blank_paper(program))
        for name, place, _ in paper:
            self.assertEqual(ways(program, paper, name, place), ())

    def test_out_has_none(self):
        program = parse("global g; proc main() { ask x; } proc f() { }")
        rows = [(name, "out", exit_state(ALL_VALUES, g=one(1))) for name in ("main", "f")]
        paper = paper_with(program, *rows)
        self.assertEqual(ways(program, paper, "main", "out"), ())
        self.assertEqual(ways(program, paper, "f", "out"), ())

    def test_in(self):
        self.assert_ways(
            "ask y; ask x;", "in", state(g=(0, 4, 2)), ("start", "0", state(g=(0, 4, 2), x=ZERO, y=ZERO)),
        )
        self.assert_ways("tell 1;", "in", (), ("start", "0", ()), head="")
        self.assert_ways("while 0 < 1 { ask x; }", "in", state(g=one(3)), ("start", "0", state(g=one(3), x=ZERO)))

    def test_in_of_an_empty_procedure(self):
        self.assert_ways("", "in", state(g=(1, 3, 1)), ("start", "out", exit_state(ZERO, g=(1, 3, 1))))
        self.assert_ways("", "in", (), ("start", "out", exit_state(ZERO)), head="")

    def test_in_with_parameters_and_locals(self):
        program = parse("global h; global g; proc main() { } proc f(x, b) { ask y; a = x; }")
        entry = state(h=one(1), g=one(2), x=(3, 5, 2), b=one(4))
        paper = paper_with(program, ("f", "in", entry))
        wanted = state(h=one(1), g=one(2), a=ZERO, b=one(4), x=(3, 5, 2), y=ZERO)
        self.assertEqual(ways(program, paper, "f", "in"), (("start", "f", "0", wanted),))
        self.assertEqual(ways(program, paper, "main", "out"), ())

    def test_in_of_an_empty_procedure_with_parameters(self):
        program = parse("global g; proc main() { } proc f(x, g1) { }")
        paper = paper_with(program, ("f", "in", state(g=one(2), x=one(3), g1=one(4))))
        self.assertEqual(ways(program, paper, "f", "in"), (("start", "f", "out", exit_state(ZERO, g=one(2))),))

    def test_set(self):
        given = state(g=(0, 6, 3), x=(1, 5, 2))
        self.assert_ways("x = (g + 1); tell x;", "0", given, ("next", "1", state(g=(0, 6, 3), x=(1, 7, 3))))
        self.assert_ways("g = (x + x); ask x;", "0", given, ("next", "1", state(g=(2, 10, 2), x=(1, 5, 2))))
        self.assert_ways("x = x; ask x;", "0", given, ("next", "1", given))
        self.assert_ways("x = (1 / 0); ask x;", "0", given)
        self.assert_ways("x = (x * 10000); ask x;", "0", state(g=ZERO, x=(2, 4, 1)))
        self.assert_ways(
            "x = (x * 5000); ask x;", "0", state(g=ZERO, x=(1, 4, 1)), ("next", "1", state(g=ZERO, x=(5000, 10000, 5000))),
        )

    def test_ask(self):
        given = state(g=one(1), x=one(2))
        self.assert_ways("ask x; tell x;", "0", given, ("next", "1", state(g=one(1), x=ALL_VALUES)))
        self.assert_ways("ask g; ask x;", "0", given, ("next", "1", state(g=ALL_VALUES, x=one(2))))

    def test_tell(self):
        given = state(g=(0, 1, 1))
        self.assert_ways("tell g; tell 1;", "0", given, ("next", "1", given))
        self.assert_ways("tell (1 / g); tell 1;", "0", given, ("next", "1", given))
        self.assert_ways("tell (1 / 0); tell 1;", "0", given)
        self.assert_ways("tell (1 mod g); tell 1;", "0", state(g=ZERO))

    def test_check_and_need(self):
        given = state(g=(0, 9, 1), x=one(4))
        for word in ("check", "need"):
            body = word + " {}; ask x;"
            self.assert_ways(body.format("g < x"), "0", given, ("next", "1", state(g=(0, 3, 1), x=one(4))))
            self.assert_ways(body.format("0 < 1"), "0", given, ("next", "1", given))
            self.assert_ways(body.format("1 < 0"), "0", given)
            self.assert_ways(body.format("not g < x"), "0", given, ("next", "1", state(g=(4, 9, 1), x=one(4))))
            self.assert_ways(body.format("(1 / 0) < 1"), "0", given)
            self.assert_ways(body.format("[0 < 1 or 0 < (1 / 0)]"), "0", given)

    def test_the_last_statement_of_a_procedure(self):
        given = state(g=(0, 9, 3), x=one(4))
        left = ("next", "out", exit_state(ZERO, g=(0, 9, 3)))
        self.assert_ways("x = 1;", "0", given, left)
        self.assert_ways("g = x;", "0", given, ("next", "out", exit_state(ZERO, g=one(4))))
        self.assert_ways("ask x;", "0", given, left)
        self.assert_ways("ask g;", "0", state(g=one(1)), ("next", "out", exit_state(ZERO, g=ALL_VALUES)))
        self.assert_ways("ask x; tell x;", "1", given, left)
        self.assert_ways("ask x; need g < x;", "1", given, ("next", "out", exit_state(ZERO, g=(0, 3, 3))))
        self.assert_ways("ask x; check g < 0;", "1", given)

    def test_an_exit_with_a_global_called_result(self):
        head = "global result; global g;"
        given = (("result", (5, 7, 2)), ("g", one(1)))
        self.assert_ways("tell 1;", "0", given, ("next", "out", (*given, ("result", ZERO))), head=head)
        self.assert_ways("return result;", "0", given, ("end", "out", (*given, ("result", (5, 7, 2)))), head=head)
        self.assert_ways(
            "result = 3;", "0", given, ("next", "out", (("result", one(3)), given[1], ("result", ZERO))), head=head,
        )

    def test_if(self):
        given = state(g=(0, 9, 1), x=one(4))
        less, more = state(g=(0, 3, 1), x=one(4)), state(g=(4, 9, 1), x=one(4))
        body = "if g < x { ask x; } else { tell 1; } tell 2;"
        self.assert_ways(body, "0", given, ("yes", "0.0.0", less), ("no", "0.1.0", more))
        self.assert_ways("if g < x { ask x; } tell 2;", "0", given, ("yes", "0.0.0", less), ("no", "1", more))
        self.assert_ways("if g < x { } else { ask x; } tell 2;", "0", given, ("yes", "1", less), ("no", "0.1.0", more))
        self.assert_ways("if g < x { } ask x;", "0", given, ("yes", "1", less), ("no", "1", more))

    def test_if_with_conditions_that_are_only_true_or_only_false(self):
        given = state(g=(0, 9, 1))
        self.assert_ways("if g < 10 { tell 1; } tell 2;", "0", given, ("yes", "0.0.0", given))
        self.assert_ways("if g < 0 { tell 1; } tell 2;", "0", given, ("no", "1", given))
        self.assert_ways("if g < (1 / 0) { tell 1; } tell 2;", "0", given)
        self.assert_ways("if [g < 3 and (1 mod 0) == 0] { tell 1; } tell 2;", "0", given)
        self.assert_ways("if not g < 10 { tell 1; } tell 2;", "0", given, ("no", "1", given))

    def test_the_last_if_of_a_procedure(self):
        given = state(g=(0, 9, 1), x=one(4))
        less, more = exit_state(ZERO, g=(0, 3, 1)), exit_state(ZERO, g=(4, 9, 1))
        self.assert_ways("ask x; if g < x { }", "1", given, ("yes", "out", less), ("no", "out", more))
        self.assert_ways(
            "if g < x { ask x; }", "0", given, ("yes", "0.0.0", state(g=(0, 3, 1), x=one(4))), ("no", "out", more),
        )
        self.assert_ways(
            "if g < x { } else { ask x; }", "0", given, ("yes", "out", less), ("no", "0.1.0", state(g=(4, 9, 1), x=one(4))),
        )

    def test_while(self):
        given = state(g=(0, 9, 1), x=one(4))
        less, more = state(g=(0, 3, 1), x=one(4)), state(g=(4, 9, 1), x=one(4))
        self.assert_ways("while g < x { ask x; } tell 2;", "0", given, ("yes", "0.0.0", less), ("no", "1", more))
        self.assert_ways("while g < x { } ask x;", "0", given, ("yes", "0", less), ("no", "1", more))
        self.assert_ways(
            "while g < x { ask x; }", "0", given, ("yes", "0.0.0", less), ("no", "out", exit_state(ZERO, g=(4, 9, 1))),
        )
        self.assert_ways("while g < 10 { ask x; } tell 2;", "0", given, ("yes", "0.0.0", given))
        self.assert_ways("while g < 0 { ask x; } tell 2;", "0", given, ("no", "1", given))
        self.assert_ways("while (1 / 0) < g { ask x; } tell 2;", "0", given)
        self.assert_ways("while 0 < 1 { while g < x { } ask x; }", "0.0.0", given, ("yes", "0.0.0", less), ("no", "0.0.1", more))
        self.assert_ways("while 0 < 1 { ask x; while g < x { } }", "0.0.1", given, ("yes", "0.0.1", less), ("no", "0", more))

    def test_the_last_statement_of_a_block(self):
        given = state(g=one(1), x=one(2))
        led = state(g=one(1), x=ALL_VALUES)
        self.assert_ways("if 0 < 1 { ask x; } else { tell 1; } tell 2;", "0.0.0", given, ("next", "1", led))
        self.assert_ways("if 0 < 1 { tell 1; } else { ask x; } tell 2;", "0.1.0", given, ("next", "1", led))
        self.assert_ways("while 0 < 1 { ask x; } tell 2;", "0.0.0", given, ("next", "0", led))
        self.assert_ways("while 0 < 1 { if 0 < 1 { ask x; } }", "0.0.0.0.0", given, ("next", "0", led))
        self.assert_ways("if 0 < 1 { ask x; }", "0.0.0", given, ("next", "out", exit_state(ZERO, g=one(1))))

    def test_return(self):
        given = state(g=(0, 6, 3), x=(1, 5, 2))
        self.assert_ways("return x; ask x;", "0", given, ("end", "out", exit_state((1, 5, 2), g=(0, 6, 3))))
        self.assert_ways("return g; ask x;", "0", given, ("end", "out", exit_state((0, 6, 3), g=(0, 6, 3))))
        self.assert_ways("return (g + x); ask x;", "0", given, ("end", "out", exit_state((1, 11, 1), g=(0, 6, 3))))
        self.assert_ways("return 0; ask x;", "0", given, ("end", "out", exit_state(ZERO, g=(0, 6, 3))))
        self.assert_ways("return (x / 0); ask x;", "0", given)
        self.assert_ways("while 0 < 1 { return 7; ask x; }", "0.0.0", given, ("end", "out", exit_state(one(7), g=(0, 6, 3))))
        self.assert_ways("return 7;", "0", (), ("end", "out", exit_state(one(7))), head="")


class WaysOfCalls(unittest.TestCase):
    PROGRAM = parse("""
        global g; global h;
        proc main() {
            ask x;
            call f(x, (g + 1)) to x;
            call f(1, 2);
            call f(3, 4) to h;
            call f((1 / g), (1 / 0)) to x;
            call f((1 / 0), 1) to x;
            call main() to y;
            call f(x, 1) to h;
        }
        proc f(q, b) { return q; }
    """)
    GIVEN = state(g=(0, 2, 1), h=one(8), x=(3, 5, 2), y=one(9))
    LEFT = exit_state((20, 30, 10), g=one(1), h=(6, 7, 1))

    def ways_of(self, place, *rows):
        paper = paper_with(self.PROGRAM, ("main", place, self.GIVEN), *rows)
        return ways(self.PROGRAM, paper, "main", place)

    def enter(self, first, second):
        return ("enter", "f", "in", state(g=(0, 2, 1), h=one(8), q=first, b=second))

    def test_without_an_exit_state(self):
        self.assertEqual(self.ways_of("1"), (self.enter((3, 5, 2), (1, 3, 1)),))
        self.assertEqual(self.ways_of("2"), (self.enter(one(1), one(2)),))

    def test_with_a_local_as_the_target(self):
        self.assertEqual(self.ways_of("1", ("f", "out", self.LEFT)), (
            self.enter((3, 5, 2), (1, 3, 1)),
            ("back", "main", "2", state(g=one(1), h=(6, 7, 1), x=(20, 30, 10), y=one(9))),
        ))

    def test_without_a_target(self):
        self.assertEqual(self.ways_of("2", ("f", "out", self.LEFT)), (
            self.enter(one(1), one(2)),
            ("back", "main", "3", state(g=one(1), h=(6, 7, 1), x=(3, 5, 2), y=one(9))),
        ))

    def test_with_a_global_as_the_target(self):
        self.assertEqual(self.ways_of("3", ("f", "out", self.LEFT)), (
            self.enter(one(3), one(4)),
            ("back", "main", "4", state(g=one(1), h=(20, 30, 10), x=(3, 5, 2), y=one(9))),
        ))

    def test_an_expression_without_a_range(self):
        self.assertEqual(self.ways_of("4", ("f", "out", self.LEFT)), ())
        self.assertEqual(self.ways_of("5", ("f", "out", self.LEFT)), ())
        self.assertEqual(self.ways_of("4"), ())

    def test_a_call_of_itself(self):
        enter = ("enter", "main", "in", state(g=(0, 2, 1), h=one(8)))
        self.assertEqual(self.ways_of("6"), (enter,))
        self.assertEqual(self.ways_of("6", ("f", "out", self.LEFT)), (enter,))
        self.assertEqual(self.ways_of("6", ("main", "out", self.LEFT)), (
            enter, ("back", "main", "7", state(g=one(1), h=(6, 7, 1), x=(3, 5, 2), y=(20, 30, 10))),
        ))

    def test_a_call_that_is_the_last_statement(self):
        self.assertEqual(self.ways_of("7", ("f", "out", self.LEFT)), (
            self.enter((3, 5, 2), one(1)),
            ("back", "main", "out", exit_state(ZERO, g=one(1), h=(20, 30, 10))),
        ))

    def test_an_expression_that_can_fail_and_has_a_range(self):
        program = parse("global g; proc main() { call f((6 / g)); } proc f(q) { }")
        paper = paper_with(program, ("main", "0", state(g=(0, 2, 2))), ("f", "out", exit_state(one(4), g=one(5))))
        self.assertEqual(ways(program, paper, "main", "0"), (
            ("enter", "f", "in", state(g=(0, 2, 2), q=one(3))),
            ("back", "main", "out", exit_state(ZERO, g=one(5))),
        ))

    def test_a_global_called_result(self):
        program = parse("global result; proc main() { call f() to x; call f() to result; call f(); ask x; } proc f() { }")
        left = (("result", (1, 2, 1)), ("result", (5, 8, 3)))
        given = (("result", one(4)), ("x", one(3)))
        enter = ("enter", "f", "in", (("result", one(4)),))
        cases = (
            ("0", "1", (("result", (1, 2, 1)), ("x", (5, 8, 3)))),
            ("1", "2", (("result", (5, 8, 3)), ("x", one(3)))),
            ("2", "3", (("result", (1, 2, 1)), ("x", one(3)))),
        )
        for place, target, led in cases:
            paper = paper_with(program, ("main", place, given), ("f", "out", left))
            self.assertEqual(ways(program, paper, "main", place), (enter, ("back", "main", target, led)))

    def test_a_call_in_a_loop(self):
        program = parse("proc main() { while 0 < 1 { call f(); } } proc f() { }")
        paper = paper_with(program, ("main", "0.0.0", ()), ("f", "out", exit_state(ZERO)))
        self.assertEqual(ways(program, paper, "main", "0.0.0"), (("enter", "f", "in", ()), ("back", "main", "0", ())))


class Complaints(unittest.TestCase):
    PROGRAM = parse("global g; global h; proc f(x) { return (x + g); } proc main() { call f(3) to y; tell y; }")

    def test_no_complaint(self):
        self.assertEqual(judge(self.PROGRAM, solve(self.PROGRAM)), ())
        for number in range(100):
            program = made_program(number)
            self.assertEqual(judge(program, solve(program)), ())

    def begin_with(self, state_of_main):
        paper = [row for row in blank_paper(self.PROGRAM) if row[:2] != ("main", "in")]
        paper.insert(3, ("main", "in", state_of_main))
        return judge(self.PROGRAM, tuple(paper))

    def test_begin(self):
        begin, start = ("main", "in", "begin"), ("main", "in", "start")
        self.assertEqual(self.begin_with(None), (begin,))
        self.assertEqual(self.begin_with(state(g=ZERO, h=ZERO)), (start,))
        self.assertEqual(self.begin_with(state(g=(-4, 4, 2), h=(0, 1, 1))), (start,))
        self.assertEqual(self.begin_with(state(g=one(1), h=ZERO)), (begin, start))
        self.assertEqual(self.begin_with(state(g=ZERO, h=(1, 5, 1))), (begin, start))
        self.assertEqual(self.begin_with(state(g=(-1, 1, 2), h=ZERO)), (begin, start))
        self.assertEqual(self.begin_with(state(g=(-5, -1, 1), h=(-4, 4, 3))), (begin, start))

    def test_begin_without_globals(self):
        program = parse("proc main() { }")
        self.assertEqual(judge(program, (("main", "in", None), ("main", "out", None))), (("main", "in", "begin"),))
        self.assertEqual(judge(program, (("main", "in", ()), ("main", "out", None))), (("main", "in", "start"),))
        paper = (("main", "in", ()), ("main", "out", exit_state(one(1))))
        self.assertEqual(judge(program, paper), (("main", "in", "start"),))
        paper = (("main", "in", ()), ("main", "out", exit_state((0, 1, 1))))
        self.assertEqual(judge(program, paper), ())

    def test_the_state_at_in_of_another_procedure_may_be_anything(self):
        program = parse("global g; proc f() { } proc main() { }")
        paper = paper_with(program, ("main", "out", exit_state(ZERO, g=ZERO)), ("f", "in", state(g=one(1))),
                           ("f", "out", exit_state(ZERO, g=one(1))))
        self.assertEqual(judge(program, paper), ())

    def test_complaints_of_several_procedures_in_the_order_of_the_paper_and_of_the_ways(self):
        program = parse("""
            global g;
            proc f(x) { if x < 3 { tell 1; } else { tell 2; } }
            proc main() { ask y; while y < g { call f(y) to g; } call main(); }
        """)
        paper = paper_with(
            program,
            ("f", "0", state(g=ZERO, x=(0, 9, 1))),
            ("f", "0.1.0", state(g=ZERO, x=one(3))),
            ("f", "out", exit_state(one(7), g=one(1))),
            ("main", "in", state(g=one(1))),
            ("main", "1", state(g=(0, 1, 1), y=(0, 9, 1))),
            ("main", "1.0.0", state(g=one(1), y=ZERO)),
            ("main", "2", state(g=(0, 1, 1), y=(0, 9, 1))),
            ("main", "out", exit_state(ZERO, g=one(1))),
        )
        self.assertEqual(judge(program, paper), (
            ("main", "in", "begin"),
            ("f", "0", "yes"), ("f", "0", "no"), ("f", "0.1.0", "next"),
            ("main", "in", "start"),
            ("main", "1.0.0", "enter"), ("main", "1.0.0", "back"),
            ("main", "2", "enter"),
        ))

    def test_one_variable_too_many_is_enough(self):
        program = parse("global g; proc main() { ask x; tell x; }")
        given = state(g=(0, 4, 2), x=one(1))
        rows = [("main", "1", given), ("main", "out", exit_state(ZERO, g=(0, 4, 2)))]
        fine = paper_with(program, ("main", "0", state(g=ZERO, x=ZERO)), ("main", "1", state(g=ZERO, x=ALL_VALUES)), rows[1])
        self.assertEqual(judge(program, fine), ())
        for entry in (state(g=one(1), x=ALL_VALUES), state(g=(0, 6, 2), x=(-10000, 9999, 1))):
            paper = paper_with(program, ("main", "0", state(g=ZERO, x=ZERO)), ("main", "1", entry), rows[1])
            self.assertEqual(judge(program, paper)[0], ("main", "0", "next"))

    def test_complaints_are_the_ways_that_lead_outside(self):
        for number in range(120):
            program = made_program(number)
            paper = made_paper(program, number)
            wanted = []
            begin = state_at(paper, "main", "in")
            if begin is None or not all(low <= 0 <= high and (low == high or low % step == 0) for _, (low, high, step) in begin):
                wanted.append(("main", "in", "begin"))
            for name, place, _ in paper:
                for way, other, target, led in ways(program, paper, name, place):
                    there = state_at(paper, other, target)
                    if there is None or not state_within(led, there):
                        wanted.append((name, place, way))
            self.assertEqual(judge(program, paper), tuple(wanted))


class Claims(unittest.TestCase):
    def claims_of(self, body, *rows, head="global g;"):
        program = parse(head + " proc main() { " + body + " }")
        return claims(program, paper_with(program, *[("main", *row) for row in rows]))

    def kinds_of(self, body):
        rows = self.claims_of(body)
        self.assertEqual({row[3] for row in rows} - {"unreached"}, set())
        self.assertEqual({row[0] for row in rows} - {"main"}, set())
        return tuple(row[1:3] for row in rows)

    def test_kinds_by_form(self):
        cases = {
            "x = 1;": (), "x = g;": (), "x = (g + 1);": ("overflow",), "x = (1 - g);": ("overflow",),
            "x = (g * 2);": ("overflow",), "x = (g / 2);": ("division", "overflow"),
            "x = (g mod 2);": ("division", "overflow"), "x = (1 + (2 mod 1));": ("division", "overflow"),
            "x = ((2 / 1) - 1);": ("division", "overflow"), "x = ((2 * 1) - 1);": ("overflow",),
            "ask x;": (), "tell 1;": (), "tell (1 + 1);": ("overflow",), "tell (1 / 1);": ("division", "overflow"),
            "return g;": (), "return (g * g);": ("overflow",), "return (g mod g);": ("division", "overflow"),
            "need g < 1;": (), "need (g + 1) < 1;": ("overflow",), "need 1 == (g mod 3);": ("division", "overflow"),
            "need [g < 1 and [g < 2 or not (g - 1) < 3]];": ("overflow",),
            "need [[(g / 2) < 1 and g < 2] or g < 3];": ("division", "overflow"),
            "check g < 1;": ("check",), "check (g + 1) < 1;": ("overflow", "check"),
            "check not 1 < (1 / g);": ("division", "overflow", "check"),
            "check [g < 1 or g < (g mod 2)];": ("division", "overflow", "check"),
            "if g < 1 { }": (), "if (g + 1) < 1 { } else { }": ("overflow",), "if g < (1 / 2) { }": ("division", "overflow"),
            "while g < 1 { }": (), "while g != (g * g) { }": ("overflow",), "while 0 < (g mod 2) { }": ("division", "overflow"),
            "call main();": (), "call main() to g;": (),
        }
        for body, wanted in cases.items():
            with self.subTest(body):
                self.assertEqual(self.kinds_of(body), tuple(("0", kind) for kind in wanted))

    def test_kinds_of_calls(self):
        for arguments, wanted in (
            ("1, g", ()), ("(1 + 2), g", ("overflow",)), ("1, (g mod 2)", ("division", "overflow")),
            ("(1 + 2), (3 / 4)", ("division", "overflow")), ("(1 / 2), 3", ("division", "overflow")),
        ):
            program = parse("global g; proc main() { call f(" + arguments + ") to g; } proc f(a, b) { }")
            rows = claims(program, blank_paper(program))
            self.assertEqual(rows, tuple(("main", "0", kind, "unreached") for kind in wanted))

    def test_statements_of_blocks_are_not_those_of_the_statement(self):
        body = "if g < 1 { tell (1 / g); } else { while g < 2 { check g < 3; } } while (g + 1) < 2 { tell (g mod 1); }"
        self.assertEqual(self.kinds_of(body), (
            ("0.0.0", "division"), ("0.0.0", "overflow"), ("0.1.0.0.0", "check"),
            ("1", "overflow"), ("1.0.0", "division"), ("1.0.0", "overflow"),
        ))

    def test_several_procedures_in_their_order(self):
        program = parse("proc z() { tell (1 / 2); } proc main() { tell (1 + 2); call z(); } proc a(x) { check x < 1; }")
        self.assertEqual(claims(program, solve(program)), (
            ("z", "0", "division", "safe"), ("z", "0", "overflow", "safe"),
            ("main", "0", "overflow", "safe"), ("a", "0", "check", "unreached"),
        ))

    def assert_verdicts(self, body, given, *wanted):
        rows = self.claims_of(body, ("0", given))
        self.assertEqual([row[:2] for row in rows], [("main", "0")] * len(wanted))
        self.assertEqual(tuple(row[2:] for row in rows), wanted)

    def test_verdicts(self):
        given = state(g=(0, 9000, 1000))
        self.assert_verdicts("tell (g / 2);", given, ("division", "safe"), ("overflow", "safe"))
        self.assert_verdicts("tell (2 / g);", given, ("division", "open"), ("overflow", "safe"))
        self.assert_verdicts("tell (g + 1000);", given, ("overflow", "safe"))
        self.assert_verdicts("tell (g + 1001);", given, ("overflow", "open"))
        self.assert_verdicts("tell ((g + 1001) / g);", given, ("division", "open"), ("overflow", "open"))
        self.assert_verdicts("tell ((g + 1001) / 7);", given, ("division", "safe"), ("overflow", "open"))
        self.assert_verdicts("tell (2 / g);", None, ("division", "unreached"), ("overflow", "unreached"))
        self.assert_verdicts("check g < 1;", None, ("check", "unreached"))
        self.assert_verdicts("check g < (1 / 0);", None, *[(kind, "unreached") for kind in ("division", "overflow", "check")])

    def test_a_place_with_a_state_of_no_variables_is_reached(self):
        program = parse("proc main() { tell (1 / 0); check 0 < 1; }")
        paper = (("main", "in", ()), ("main", "0", ()), ("main", "1", None), ("main", "out", None))
        self.assertEqual(claims(program, paper), (
            ("main", "0", "division", "open"), ("main", "0", "overflow", "safe"), ("main", "1", "check", "unreached"),
        ))

    def test_verdicts_of_a_check(self):
        given = state(g=(0, 9, 3))
        self.assert_verdicts("check g < 9;", given, ("check", "open"))
        self.assert_verdicts("check g < 10;", given, ("check", "safe"))
        self.assert_verdicts("check g < 0;", given, ("check", "open"))
        self.assert_verdicts("check not g < 0;", given, ("check", "safe"))
        self.assert_verdicts("check g != 10;", given, ("check", "safe"))
        self.assert_verdicts("check [g < 5 or 4 < g];", given, ("check", "safe"))
        self.assert_verdicts("check [g < 5 and 4 < g];", given, ("check", "open"))

    def test_a_check_with_an_expression_without_a_range(self):
        given = state(g=(0, 9, 3))
        self.assert_verdicts("check g < (1 / 0);", given, ("division", "open"), ("overflow", "safe"), ("check", "safe"))
        self.assert_verdicts(
            "check [g < 0 or 1 < (1 mod 0)];", given, ("division", "open"), ("overflow", "safe"), ("check", "safe"),
        )
        self.assert_verdicts("check 0 < ((g + 9999) + 9999);", state(g=(5, 6, 1)), ("overflow", "open"), ("check", "safe"))
        self.assert_verdicts("check 0 < (g + 9999);", state(g=(0, 6, 1)), ("overflow", "open"), ("check", "safe"))
        self.assert_verdicts("check 9999 < (g + 9999);", state(g=(0, 6, 1)), ("overflow", "open"), ("check", "open"))

    def test_expressions_behind_one_without_a_range(self):
        given = state(g=(0, 1, 1))
        self.assert_verdicts(
            "need [(1 / 0) < 1 and (9999 + 9999) < 1];", given, ("division", "open"), ("overflow", "safe"),
        )
        self.assert_verdicts(
            "need [(9999 + 9999) < 1 and (1 / 0) < 1];", given, ("division", "safe"), ("overflow", "open"),
        )
        self.assert_verdicts("need (1 / g) < (9999 + 9999);", given, ("division", "open"), ("overflow", "open"))
        self.assert_verdicts("while (9999 + 9999) < (1 / g) { }", given, ("division", "safe"), ("overflow", "open"))
        self.assert_verdicts("if (9999 + 2) < (1 / g) { }", given, ("division", "safe"), ("overflow", "open"))
        self.assert_verdicts("if (g + 10000) < (1 / g) { }", given, ("division", "open"), ("overflow", "open"))

    def test_expressions_of_a_call_behind_one_without_a_range(self):
        for arguments, division, overflow in (
            ("(1 / 0), (9999 + 9999)", "open", "safe"),
            ("(9999 + 9999), (1 / 0)", "safe", "open"),
            ("(1 / g), (9999 + 9999)", "open", "open"),
            ("(1 mod 2), (9999 + 1)", "safe", "safe"),
        ):
            program = parse("global g; proc main() { call f(" + arguments + "); } proc f(a, b) { }")
            rows = claims(program, paper_with(program, ("main", "0", state(g=(0, 1, 1)))))
            self.assertEqual(rows, (("main", "0", "division", division), ("main", "0", "overflow", overflow)))

    def test_the_example_of_the_document(self):
        program = parse(
            "global g; proc main() { ask x; need 0 < x; while g < 10 { g = (g + 2); } check g == 10; tell (100 / x); }"
        )
        self.assertEqual(claims(program, solve(program)), (
            ("main", "2.0.0", "overflow", "safe"), ("main", "3", "check", "safe"),
            ("main", "4", "division", "safe"), ("main", "4", "overflow", "safe"),
        ))


if __name__ == "__main__":
    unittest.main()
