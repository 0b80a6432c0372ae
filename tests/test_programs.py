"""Points 8 and 9: what a program must keep; parameters, locals, variables."""

import itertools
import unittest

from carryclaim.errors import ClaimError, ProgramProblem
from carryclaim.parser import parse
from carryclaim.programs import check_program, local_names, parameters, variables
from tests.made import changed_names, made_program

MAIN = "proc main() {} "


def problem(text):
    """The where and the reason of the ProgramProblem of a text's program."""
    program = parse(text)
    try:
        result = check_program(program)
    except ProgramProblem as found:
        return (found.where, found.reason)
    assert result is None
    return None


class ProblemCase(unittest.TestCase):
    def assert_problems(self, cases):
        for text, wanted in cases.items():
            with self.subTest(text):
                self.assertEqual(problem(text), wanted)


class Sound(unittest.TestCase):
    def test_programs_without_a_fault_give_none(self):
        texts = (
            MAIN,
            "global g; global h; proc main() { g = h; }",
            "proc main() { call f(1, 2) to x; tell x; } proc f(b, a) { return (a - b); }",
            "proc f() { call f(); call main(); } proc main() { call f(); }",
            "proc main() { while x < 1 { ask x; } }",
            "proc main() { call main(); }",
            "global main; proc main() { main = 1; }",
            "global f; proc main() { f = 1; f2 = f; } proc f(f2) { f2 = f; }",
        )
        for text in texts:
            with self.subTest(text):
                self.assertIsNone(check_program(parse(text)))

    def test_made_programs(self):
        for number in range(300):
            self.assertIsNone(check_program(made_program(number)))

    def test_the_same_local_in_two_procedures(self):
        self.assertIsNone(problem("proc main() { ask x; } proc f(x) { ask y; } proc h(y) { ask x; }"))

    def test_the_error(self):
        with self.assertRaises(ProgramProblem) as caught:
            check_program(parse("proc main() { tell x; }"))
        self.assertIsInstance(caught.exception, ClaimError)
        self.assertEqual(caught.exception.where, "main")
        self.assertEqual(caught.exception.reason, "unknown")


class Whole(ProblemCase):
    def test_global_names_that_stand_twice(self):
        self.assert_problems({
            "global g; global g; " + MAIN: ("", "duplicate"),
            "global g; global h; global g; " + MAIN: ("", "duplicate"),
            "global a; global b; global c; global b; " + MAIN: ("", "duplicate"),
        })

    def test_procedures_that_stand_twice(self):
        self.assert_problems({
            MAIN + MAIN: ("main", "duplicate"),
            MAIN + "proc f() {} proc f(a) {}": ("f", "duplicate"),
            "proc f() {} " + MAIN + "proc f() {}": ("f", "duplicate"),
        })

    def test_the_first_procedure_that_has_an_earlier_name(self):
        self.assert_problems({
            MAIN + "proc a() {} proc b() {} proc b() {} proc a() {}": ("b", "duplicate"),
            MAIN + "proc a() {} proc b() {} proc a() {} proc b() {}": ("a", "duplicate"),
            MAIN + "proc a() {} proc b() {} proc c() {} proc c() {} proc a() {} proc b() {}": ("c", "duplicate"),
        })

    def test_main(self):
        self.assert_problems({
            "": ("", "main"),
            "global main;": ("", "main"),
            "proc f() {}": ("", "main"),
            "proc main(a) {}": ("", "main"),
            "proc f() {} proc main(a, b) {}": ("", "main"),
            "proc main2() {}": ("", "main"),
        })

    def test_many_globals(self):
        names = [f"global g{k}; " for k in range(7)]
        self.assertIsNone(problem("".join(names[:6]) + MAIN))
        self.assertEqual(problem("".join(names) + MAIN), ("", "size"))

    def test_many_procedures(self):
        rows = [f"proc f{k}() {{}} " for k in range(8)]
        self.assertIsNone(problem("".join(rows[:7]) + MAIN))
        self.assertEqual(problem("".join(rows) + MAIN), ("", "size"))


class Procedures(ProblemCase):
    def test_parameters_that_stand_twice(self):
        self.assert_problems({
            MAIN + "proc f(a, a) {}": ("f", "duplicate"),
            MAIN + "proc f(a, b, a) {}": ("f", "duplicate"),
            MAIN + "proc f(a, b, c, b) {}": ("f", "duplicate"),
        })

    def test_parameters_that_are_globals(self):
        self.assert_problems({
            "global g; " + MAIN + "proc f(g) {}": ("f", "duplicate"),
            "global g; global h; " + MAIN + "proc f(a, b, h) {}": ("f", "duplicate"),
            "global g; proc h(g) {} " + MAIN: ("h", "duplicate"),
        })

    def test_many_statements(self):
        self.assertIsNone(problem("proc main() {" + "ask x;" * 40 + "}"))
        self.assertEqual(problem("proc main() {" + "ask x;" * 41 + "}"), ("main", "size"))
        two = "proc main() {" + "ask x;" * 40 + "} proc f() {" + "ask x;" * 40 + "}"
        self.assertIsNone(problem(two))

    def test_many_statements_in_blocks(self):
        blocks = (
            "while x < 1 { {} }",
            "if x < 1 { {} }",
            "if x < 1 { } else { {} }",
            "while x < 1 { if x < 2 { } else { while x < 3 { {} } } }",
        )
        for block in blocks:
            around = block.count("<")
            for many, wanted in ((40, None), (41, ("main", "size"))):
                text = "proc main() { " + block.replace("{}", "ask x; " * (many - around)) + " }"
                with self.subTest(text):
                    self.assertEqual(problem(text), wanted)

    def test_both_blocks_of_an_if_count(self):
        for many, wanted in ((19, None), (20, ("main", "size"))):
            text = "proc main() { if 0 < 1 {" + "ask x; " * 20 + "} else {" + "ask x; " * many + "} }"
            self.assertEqual(problem(text), wanted)

    def test_many_parameters(self):
        self.assert_problems({
            MAIN + "proc f(a, b, c, d) {}": None,
            MAIN + "proc f(a, b, c, d, e) {}": ("f", "size"),
        })

    def test_many_locals(self):
        asked = "".join(f"ask x{k}; " for k in range(8))
        self.assert_problems({
            "proc main() {" + asked + "}": None,
            "proc main() {" + asked + "ask y; }": ("main", "size"),
            "proc main() {" + asked + "y = 1; }": ("main", "size"),
            "proc main() {" + asked + "call main() to y; }": ("main", "size"),
            "proc main() {" + asked + "while x0 < 1 { if x1 < 1 { } else { ask y; } } }": ("main", "size"),
            "proc main() {" + asked + asked + "ask x0; x0 = 1; }": None,
            "global y; proc main() {" + asked + "ask y; y = 1; call main() to y; }": None,
        })

    def test_parameters_are_locals(self):
        asked = "".join(f"ask x{k}; " for k in range(6))
        self.assert_problems({
            MAIN + "proc f(a, b) {" + asked + "}": None,
            MAIN + "proc f(a, b, c) {" + asked + "}": ("f", "size"),
            MAIN + "proc f(a, x3, x4) {" + asked + "}": None,
        })

    def test_globals_are_no_locals(self):
        names = "".join(f"global g{k}; " for k in range(6))
        asked = "".join(f"ask x{k}; " for k in range(8))
        changed = "".join(f"ask g{k}; " for k in range(6))
        self.assertIsNone(problem(names + "proc main() {" + asked + changed + "}"))


class Unknown(ProblemCase):
    def test_calls_of_unknown_procedures(self):
        self.assert_problems({
            "proc main() { call f(); }": ("main", "unknown"),
            "proc main() { while 0 < 1 { call f(); } }": ("main", "unknown"),
            "proc main() { if 0 < 1 { } else { call f(1) to x; } }": ("main", "unknown"),
            "global f; proc main() { call f(); }": ("main", "unknown"),
            "proc main() { f = 1; call f(); }": ("main", "unknown"),
        })

    def test_unknown_names_in_every_statement(self):
        statements = (
            "x = y;", "x = x2;", "tell y;", "return y;", "check y < 1;", "need 1 < y;", "call main() to x; tell y;",
            "if y < 1 { }", "while y < 1 { }", "if 1 < 2 { tell y; }", "if 1 < 2 { } else { tell y; }",
            "while 1 < 2 { tell y; }", "call f(y);", "call f(y) to x;", "call f((1 + y));",
        )
        for statement in statements:
            text = "proc main() { " + statement + " } proc f(a) { ask y; }"
            with self.subTest(text):
                self.assertEqual(problem(text), ("main", "unknown"))
                known = text.replace(" } proc f", " ask x2; ask y; } proc f")
                self.assertIsNone(problem(known))

    def test_unknown_names_in_every_expression(self):
        for expression in ("y", "(y + 1)", "(1 mod y)", "((1 - 2) * (3 / y))", "((y - 1) + 2)", "(x + (x + y))"):
            text = "proc main() { ask x; tell " + expression + "; }"
            with self.subTest(text):
                self.assertEqual(problem(text), ("main", "unknown"))

    def test_unknown_names_in_every_condition(self):
        conditions = (
            "y < x", "x <= y", "not y == x", "not not x != y", "[y < x and x < x]", "[x < x and y < x]",
            "[x < x or not x < y]", "[x < y or x < x]", "[x < x or [x < x and not (x + y) < x]]",
        )
        for condition in conditions:
            text = "proc main() { ask x; need " + condition + "; }"
            with self.subTest(text):
                self.assertEqual(problem(text), ("main", "unknown"))

    def test_a_target_is_a_variable(self):
        self.assert_problems({
            "proc main() { call main() to x; tell x; }": None,
            "proc main() { tell x; call main() to x; }": None,
        })

    def test_names_of_other_procedures(self):
        self.assert_problems({
            "proc main() { ask x; call f(x); } proc f(a) { tell x; }": ("f", "unknown"),
            "proc main() { tell a; } proc f(a) { }": ("main", "unknown"),
            "proc main() { tell f; } proc f(a) { }": ("main", "unknown"),
            "proc main() { tell main; }": ("main", "unknown"),
        })

    def test_globals_are_known_everywhere(self):
        self.assertIsNone(problem("global g; proc main() { tell g; } proc f(a) { return (a + g); }"))


class Counts(ProblemCase):
    def test_calls_with_wrong_counts(self):
        self.assert_problems({
            "proc main() { call main(1); }": ("main", "count"),
            "proc main() { call f(); } proc f(a) { }": ("main", "count"),
            "proc main() { call f(1, 2); } proc f(a) { }": ("main", "count"),
            "proc main() { call f(1, 2, 3); } proc f(a, b, c, d) { }": ("main", "count"),
            "proc main() { call f(1); call f(1, 2); } proc f(a) { }": ("main", "count"),
            "proc f(a) { while a < 1 { if a < 1 { call f(); } } } proc main() { }": ("f", "count"),
            "proc f(a) { if a < 1 { } else { call main(a); } } proc main() { }": ("f", "count"),
        })

    def test_calls_with_right_counts(self):
        text = "proc main() { call f(); call g(1); call h(1, 2, 3, 4); } proc f() {} proc g(a) {} proc h(a, b, c, d) {}"
        self.assertIsNone(problem(text))


class Order(unittest.TestCase):
    """Two faults in one program: the one that comes first in the list is told."""

    # Faults of the whole program: the globals, main, and the other procedures.
    WHOLE = (
        (("", "duplicate"), ("global twin; global twin; ", MAIN, "")),
        (("same", "duplicate"), ("", MAIN, "proc same() {} proc same() {} ")),
        (("", "main"), ("", "proc main(a) {} ", "")),
        (("", "size"), ("".join(f"global q{k}; " for k in range(7)), MAIN, "")),
    )
    # Faults of one procedure: its parameters and its statements.
    EACH = (
        ("duplicate", "p, p", ""),
        ("size", "p", "ask x; " * 41),
        ("unknown", "p", "tell unknown; "),
        ("count", "p", "call main(1); "),
    )

    def test_faults_of_the_whole_program(self):
        for first, second in itertools.combinations(self.WHOLE, 2):
            head = first[1][0] + second[1][0]
            main = max(first[1][1], second[1][1], key=len)
            rest = first[1][2] + second[1][2]
            with self.subTest(first[0], other=second[0]):
                self.assertEqual(problem(head + main + rest), first[0])
                self.assertEqual(problem(head + rest + main), first[0])

    def test_too_many_procedures(self):
        many = "".join(f"proc q{k}() {{}} " for k in range(8))
        for wanted, (head, main, rest) in self.WHOLE:
            with self.subTest(wanted):
                self.assertEqual(problem(head + main + rest + many), wanted)
                self.assertEqual(problem(head + many + rest + main), wanted)

    def test_faults_of_the_whole_program_and_of_a_procedure(self):
        for wanted, (head, main, rest) in self.WHOLE:
            for reason, names, body in self.EACH:
                fault = f"proc aa({names}) {{ {body} }} "
                with self.subTest(wanted, other=reason):
                    self.assertEqual(problem(head + main + fault + rest), wanted)
                    self.assertEqual(problem(head + fault + rest + main), wanted)

    def test_faults_of_one_procedure(self):
        for first, second in itertools.combinations(self.EACH, 2):
            names = first[1] if first[0] == "duplicate" else second[1]
            for body in (first[2] + second[2], second[2] + first[2]):
                text = MAIN + f"proc f({names}) {{ {body} }}"
                with self.subTest(text):
                    self.assertEqual(problem(text), ("f", first[0]))

    def test_faults_of_two_procedures(self):
        for first, second in itertools.product(self.EACH, repeat=2):
            rows = f"proc f({first[1]}) {{ {first[2]} }} proc a({second[1]}) {{ {second[2]} }} "
            for text in (MAIN + rows, rows + MAIN):
                with self.subTest(text):
                    self.assertEqual(problem(text), ("f", first[0]))

    def test_a_later_procedure(self):
        for reason, names, body in self.EACH:
            text = MAIN + "proc f() {} proc a(p) { tell p; } " + f"proc last({names}) {{ {body} }} "
            self.assertEqual(problem(text), ("last", reason))

    def test_each_size_comes_behind_duplicate_and_ahead_of_unknown(self):
        asked = "".join(f"ask x{k}; " for k in range(9))
        self.assertEqual(problem(MAIN + "proc f(a, b, c, d, d) {}"), ("f", "duplicate"))
        self.assertEqual(problem(MAIN + "proc f(a, b, c, d, e) { tell z; }"), ("f", "size"))
        self.assertEqual(problem(MAIN + "proc f(a, a) {" + asked + "}"), ("f", "duplicate"))
        self.assertEqual(problem(MAIN + "proc f(a) { tell z; " + asked + "}"), ("f", "size"))

    def test_an_unknown_name_behind_a_wrong_count(self):
        self.assertEqual(problem("proc main() { call main(1); tell x; }"), ("main", "unknown"))
        self.assertEqual(problem("proc main() { call main(x); }"), ("main", "unknown"))
        self.assertEqual(problem("proc main() { call main(1); call f(); }"), ("main", "unknown"))


class Names(unittest.TestCase):
    TEXT = (
        "global z; global a; global m; "
        "proc main() { ask y; b = 1; z = 2; ask a; call f(1, 2, 3) to x; call f(1, 2, 3) to m; call f(1, 2, 3); "
        "while y < 1 { ask b2; if y < 2 { b_ = 1; } else { call main() to c; y = 3; ask b; } } } "
        "proc f(q, d, k) { d = 1; ask e; while d < e { ask d; } tell z; } "
        "proc none() { a = 1; tell (m + z); } "
        "proc some(t, s) { }"
    )

    def setUp(self):
        self.program = parse(self.TEXT)
        self.assertIsNone(check_program(self.program))

    def test_parameters(self):
        self.assertEqual(parameters(self.program, "main"), ())
        self.assertEqual(parameters(self.program, "f"), ("q", "d", "k"))
        self.assertEqual(parameters(self.program, "some"), ("t", "s"))

    def test_local_names(self):
        self.assertEqual(local_names(self.program, "main"), ("b", "b2", "b_", "c", "x", "y"))
        self.assertEqual(local_names(self.program, "f"), ("d", "e", "k", "q"))
        self.assertEqual(local_names(self.program, "none"), ())
        self.assertEqual(local_names(self.program, "some"), ("s", "t"))

    def test_variables(self):
        self.assertEqual(variables(self.program, "main"), ("z", "a", "m", "b", "b2", "b_", "c", "x", "y"))
        self.assertEqual(variables(self.program, "f"), ("z", "a", "m", "d", "e", "k", "q"))
        self.assertEqual(variables(self.program, "none"), ("z", "a", "m"))

    def test_a_program_without_names(self):
        program = parse(MAIN)
        self.assertEqual(parameters(program, "main"), ())
        self.assertEqual(local_names(program, "main"), ())
        self.assertEqual(variables(program, "main"), ())

    def test_each_form_alone(self):
        for statement in ("x = 1;", "ask x;", "call main() to x;"):
            for text in ("{}", "while 0 < 1 { {} }", "if 0 < 1 { {} }", "if 0 < 1 { } else { {} }"):
                program = parse("global g; proc main() { " + text.replace("{}", statement) + " }")
                self.assertEqual(local_names(program, "main"), ("x",))
                self.assertEqual(variables(program, "main"), ("g", "x"))

    def test_made_programs(self):
        for number in range(200):
            program = made_program(number)
            global_names, procedures = program
            for name, given, block in procedures:
                found = sorted({*given, *changed_names(block)} - {*global_names})
                self.assertEqual(parameters(program, name), given)
                self.assertEqual(local_names(program, name), tuple(found))
                self.assertEqual(variables(program, name), global_names + tuple(found))


if __name__ == "__main__":
    unittest.main()
