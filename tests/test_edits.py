"""Points 30 to 33: edits, apply, undo, and the places to which edits move places."""

import unittest

from carryclaim.edits import apply, moved_place, undo
from carryclaim.errors import EditProblem
from carryclaim.parser import parse
from carryclaim.places import places, statement_at
from carryclaim.programs import check_program
from carryclaim.writer import write
from tests.made import lively_program, made_edit, made_program
from tests.test_places import mark_of

TEXT = """\
global g;
global h;
proc main() {
    ask x;
    if x < 1 {
        tell 10;
        while x < 2 {
            tell 20;
            tell 21;
        }
    } else {
        tell 11;
        if x < 3 {
        }
        tell 12;
    }
    while x < 4 {
        tell 13;
        if x < 5 {
            tell 22;
        }
    }
    tell 1;
}
proc f(p, q) {
    call f(p, x) to x;
    r = (g + q);
}
proc none() {
}
"""
PROGRAM = parse(TEXT)

NEW = ("tell", ("number", 99))
NEW_LOOP = parse("proc main() { while g < 77 { tell 78; tell 79; } }")[1][0][2][0]

# The paths of the blocks of main, with the number of their statements.
BLOCKS = {
    (): 4, (1, 0): 2, (1, 1): 3, (1, 0, 1, 0): 2, (1, 1, 1, 0): 0, (1, 1, 1, 1): 0, (2, 0): 2, (2, 0, 1, 0): 1,
    (2, 0, 1, 1): 0,
}
# Each place of main, with the mark of its statement.
MARKS = {
    "0": "ask", "1": 1, "1.0.0": 10, "1.0.1": 2, "1.0.1.0.0": 20, "1.0.1.0.1": 21, "1.1.0": 11, "1.1.1": 3, "1.1.2": 12,
    "2": 4, "2.0.0": 13, "2.0.1": 5, "2.0.1.0.0": 22, "3": 1,
}


def statement(text):
    return parse("proc main() { " + text + " }")[1][0][2][0]


def procedure(text):
    return parse(text)[1][0]


class EditTest(unittest.TestCase):
    def assert_applied(self, program, edit, text):
        """The edit makes the program of the text, undo undoes it, and the program stays."""
        before = write(program)
        with self.subTest(edit=edit):
            self.assertEqual(write(apply(program, edit)), write(parse(text)))
            self.assertEqual(apply(program, edit), parse(text))
            self.assertEqual(apply(apply(program, edit), undo(program, edit)), program)
            self.assertEqual(write(program), before)

    def assert_problem(self, edit, reason, program=PROGRAM):
        for function in (apply, undo):
            with self.subTest(function=function.__name__, edit=edit), self.assertRaises(EditProblem) as caught:
                function(program, edit)
            self.assertEqual(caught.exception.reason, reason)


class PathEdits(EditTest):
    LINES = TEXT.splitlines(keepends=True)

    def assert_lines(self, edit, first, last, *new):
        """The edit makes the program in which these lines of the text, from 1 on, are others."""
        text = "".join([*self.LINES[:first - 1], *new, *self.LINES[last:]])
        self.assert_applied(PROGRAM, edit, text)

    def test_replace(self):
        for path, first, last in (
            ((1,), 5, 16), ((1, 0, 0), 6, 6), ((1, 0, 1), 7, 10), ((1, 0, 1, 0, 0), 8, 8),
            ((1, 0, 1, 0, 1), 9, 9), ((1, 1, 0), 12, 12), ((1, 1, 1), 13, 14), ((1, 1, 2), 15, 15), ((2,), 17, 22),
            ((2, 0, 0), 18, 18), ((2, 0, 1), 19, 21), ((2, 0, 1, 0, 0), 20, 20), ((3,), 23, 23),
        ):
            self.assert_lines(("replace", "main", path, NEW), first, last, "tell 99;")
            self.assert_lines(("replace", "main", path, NEW_LOOP), first, last, "while g < 77 { tell 78; tell 79; }")
        self.assert_lines(("replace", "f", (1,), statement("ask r;")), 27, 27, "ask r;")

    def test_replace_by_the_same_statement(self):
        for place in MARKS:
            path = tuple(map(int, place.split(".")))
            edit = ("replace", "main", path, statement_at(PROGRAM, "main", place))
            self.assert_applied(PROGRAM, edit, TEXT)
            self.assertEqual(undo(PROGRAM, edit), edit)

    def test_insert(self):
        for path, line in (
            ((0,), 4), ((1,), 5), ((2,), 17), ((3,), 23), ((4,), 24), ((1, 0, 0), 6), ((1, 0, 1), 7), ((1, 0, 2), 11),
            ((1, 0, 1, 0, 0), 8), ((1, 0, 1, 0, 1), 9), ((1, 0, 1, 0, 2), 10), ((1, 1, 0), 12), ((1, 1, 1), 13),
            ((1, 1, 2), 15), ((1, 1, 3), 16), ((1, 1, 1, 0, 0), 14), ((2, 0, 0), 18), ((2, 0, 1), 19), ((2, 0, 2), 22),
            ((2, 0, 1, 0, 0), 20), ((2, 0, 1, 0, 1), 21),
        ):
            self.assert_lines(("insert", "main", path, NEW), line, line - 1, "tell 99;")
            self.assert_lines(("insert", "main", path, NEW_LOOP), line, line - 1, "while g < 77 { tell 78; tell 79; }")
        for path, line in (((0,), 26), ((1,), 27), ((2,), 28)):
            self.assert_lines(("insert", "f", path, NEW), line, line - 1, "tell 99;")
        self.assert_lines(("insert", "none", (0,), NEW), 30, 29, "tell 99;")

    def test_insert_into_an_empty_second_block(self):
        self.assert_lines(("insert", "main", (1, 1, 1, 1, 0), NEW), 14, 14, "} else { tell 99; }")
        self.assert_lines(("insert", "main", (2, 0, 1, 1, 0), NEW), 21, 21, "} else { tell 99; }")

    def test_insert_into_an_empty_loop(self):
        program = parse("proc main() { while 0 < 1 { } }")
        self.assert_applied(program, ("insert", "main", (0, 0, 0), NEW), "proc main() { while 0 < 1 { tell 99; } }")
        self.assert_problem(("insert", "main", (0, 1, 0), NEW), "path", program)

    def test_delete(self):
        for path, first, last in (
            ((1,), 5, 16), ((1, 0, 0), 6, 6), ((1, 0, 1), 7, 10), ((1, 0, 1, 0, 0), 8, 8), ((1, 0, 1, 0, 1), 9, 9),
            ((1, 1, 0), 12, 12), ((1, 1, 1), 13, 14), ((1, 1, 2), 15, 15), ((2,), 17, 22), ((2, 0, 0), 18, 18),
            ((2, 0, 1), 19, 21), ((2, 0, 1, 0, 0), 20, 20), ((3,), 23, 23),
        ):
            self.assert_lines(("delete", "main", path), first, last)
        self.assert_lines(("delete", "f", (1,)), 27, 27)

    def test_delete_all_that_a_second_block_has(self):
        program = parse("proc main() { if 0 < 1 { tell 1; } else { tell 2; } }")
        self.assert_applied(program, ("delete", "main", (0, 1, 0)), "proc main() { if 0 < 1 { tell 1; } }")
        self.assert_applied(program, ("delete", "main", (0, 0, 0)), "proc main() { if 0 < 1 { } else { tell 2; } }")
        self.assert_applied(program, ("delete", "main", (0,)), "proc main() { }")

    def test_swap(self):
        lines = self.LINES
        for path, first, middle, last in (
            ((0,), 4, 4, 16), ((1,), 5, 16, 22), ((2,), 17, 22, 23), ((1, 0, 0), 6, 6, 10), ((1, 0, 1, 0, 0), 8, 8, 9),
            ((1, 1, 0), 12, 12, 14), ((1, 1, 1), 13, 14, 15), ((2, 0, 0), 18, 18, 21),
        ):
            new = lines[middle:last] + lines[first - 1:middle]
            self.assert_lines(("swap", "main", path), first, last, *new)
        self.assert_lines(("swap", "f", (0,)), 26, 27, lines[26], lines[25])

    def test_undo(self):
        call = statement_at(PROGRAM, "f", "0")
        loop = statement_at(PROGRAM, "main", "1.0.1")
        self.assertEqual(undo(PROGRAM, ("replace", "f", (1,), NEW)), ("replace", "f", (1,), statement_at(PROGRAM, "f", "1")))
        self.assertEqual(undo(PROGRAM, ("replace", "main", (1, 0, 1), NEW)), ("replace", "main", (1, 0, 1), loop))
        self.assertEqual(undo(PROGRAM, ("insert", "f", (2,), NEW)), ("delete", "f", (2,)))
        self.assertEqual(undo(PROGRAM, ("insert", "main", (1, 0, 0), NEW)), ("delete", "main", (1, 0, 0)))
        self.assertEqual(undo(PROGRAM, ("delete", "main", (1, 0, 1))), ("insert", "main", (1, 0, 1), loop))
        self.assertEqual(undo(PROGRAM, ("delete", "f", (1,))), ("insert", "f", (1,), statement_at(PROGRAM, "f", "1")))
        self.assertEqual(undo(PROGRAM, ("swap", "main", (1, 1, 1))), ("swap", "main", (1, 1, 1)))
        program = apply(PROGRAM, ("insert", "f", (2,), call))
        self.assertEqual(undo(program, ("delete", "f", (0,))), ("insert", "f", (0,), call))

    def assert_no_path(self, path, *words):
        for word in words:
            tail = (NEW,) if word in ("replace", "insert") else ()
            self.assert_problem((word, "main", path, *tail), "path")

    def test_paths_that_lead_nowhere(self):
        every = ("replace", "insert", "delete", "swap")
        for path in (
            (), (-1,), (5,), (100,), (0, 0), (0, 1), (1, 0), (1, 1), (2, 0), (1, 2), (0, 0, 0), (0, 1, 0), (0, 0, 0, 0),
            (3, 0, 0), (1, 2, 0), (1, -1, 0), (1, 0, -1), (-1, 0, 0), (-3, 0, 0), (2, 1, 0), (2, 1, 1), (1, 0, 3), (1, 1, 4),
            (1, 0, 0, 0, 0), (1, 0, 1, 1, 0), (1, 0, 1, 0), (1, 0, 1, 0, 3), (1, 0, 1, 0, -1), (1, 1, 1, 2, 0), (2, 0, 3),
            (1, 1, 1, 0, 1), (1, 1, 1, 1, 1), (2, 0, 0, 0, 0), (2, 0, 1, 1, 1), (2, 0, 1, 0, 0, 0, 0), (4, 0, 0), (0, 0, 0, 0, 0),
        ):
            self.assert_no_path(path, *every)

    def test_the_end_of_a_block_is_only_for_insert(self):
        for around, many in BLOCKS.items():
            self.assert_no_path((*around, many), "replace", "delete", "swap")
            self.assert_no_path((*around, many + 1), "insert")
            apply(PROGRAM, ("insert", "main", (*around, many), NEW))

    def test_swap_of_the_last_statement(self):
        for around, many in BLOCKS.items():
            if many > 0:
                self.assert_no_path((*around, many - 1), "swap")

    def test_an_empty_procedure(self):
        for word, tail in (("replace", (NEW,)), ("delete", ()), ("swap", ())):
            self.assert_problem((word, "none", (0,), *tail), "path")
        self.assert_problem(("insert", "none", (1,), NEW), "path")
        self.assert_problem(("insert", "none", (), NEW), "path")

    def test_no_such_procedure(self):
        for word, tail in (("replace", (NEW,)), ("insert", (NEW,)), ("delete", ()), ("swap", ())):
            for name in ("nobody", "g", "x", "", "Main", "if"):
                self.assert_problem((word, name, (0,), *tail), "procedure")
                self.assert_problem((word, name, (), *tail), "procedure")
                self.assert_problem((word, name, (77, 3), *tail), "procedure")

    def test_a_program_that_does_not_pass(self):
        self.assert_problem(("delete", "main", (0,)), "result")
        self.assert_problem(("replace", "main", (0,), NEW), "result")
        self.assert_problem(("replace", "f", (0,), NEW), "result", parse("proc main() { } proc f() { ask y; tell y; }"))
        for text in (
            "tell unknown;", "call nobody();", "call f(1);", "call f(1, 2, 3) to x;", "call main(1);", "while r < 1 { }",
            "if 0 < 1 { } else { tell r; }",
        ):
            self.assert_problem(("insert", "main", (0,), statement(text)), "result")
            self.assert_problem(("replace", "main", (3,), statement(text)), "result")
        # The path is looked at first.
        self.assert_problem(("insert", "main", (5,), statement("tell unknown;")), "path")
        self.assert_problem(("replace", "main", (4,), statement("tell unknown;")), "path")
        self.assert_problem(("replace", "nobody", (4,), statement("tell unknown;")), "procedure")

    def test_programs_that_become_too_large(self):
        program = parse("proc main() { " + "tell 1; " * 40 + "}")
        self.assert_problem(("insert", "main", (0,), NEW), "result", program)
        self.assert_problem(("insert", "main", (40,), NEW), "result", program)
        self.assert_problem(("insert", "main", (41,), NEW), "path", program)
        self.assert_problem(("replace", "main", (0,), NEW_LOOP), "result", program)
        program = parse("proc main() { " + "".join(f"ask a{k}; " for k in range(8)) + "}")
        self.assert_problem(("insert", "main", (0,), statement("ask b;")), "result", program)
        self.assertEqual(apply(program, ("replace", "main", (7,), statement("ask b;")))[1][0][2][7], ("ask", "b"))

    def test_a_new_variable(self):
        program = parse("proc main() { tell 1; }")
        self.assert_applied(program, ("insert", "main", (0,), statement("ask z;")), "proc main() { ask z; tell 1; }")
        self.assert_applied(program, ("replace", "main", (0,), statement("z = z;")), "proc main() { z = z; }")


class Rename(EditTest):
    def test_a_global(self):
        program = parse("""
            global g; global h;
            proc main() { g = (g + h); ask g; tell g; check [g < h and not g == 1]; need (h - g) < 1; return (1 / (g * g)); }
            proc g(p) { if g < 1 { while g < 2 { call g(g) to g; } } else { call g((p mod g)) to p; } gg = g; }
        """)
        self.assert_applied(program, ("rename", "g", "new"), """
            global new; global h;
            proc main() { new = (new + h); ask new; tell new; check [new < h and not new == 1]; need (h - new) < 1;
                return (1 / (new * new)); }
            proc g(p) { if new < 1 { while new < 2 { call g(new) to new; } } else { call g((p mod new)) to p; } gg = new; }
        """)
        self.assertEqual(undo(program, ("rename", "g", "new")), ("rename", "new", "g"))

    def test_a_global_that_is_not_used(self):
        self.assert_applied(parse("global g; proc main() { }"), ("rename", "g", "a"), "global a; proc main() { }")

    def test_a_local_of_one_procedure(self):
        program = parse("proc main() { ask x; tell y1; ask y1; } proc f(y) { z = y; }")
        self.assert_applied(program, ("rename", "x", "b"), "proc main() { ask b; tell y1; ask y1; } proc f(y) { z = y; }")
        self.assert_applied(program, ("rename", "z", "x1"), "proc main() { ask x; tell y1; ask y1; } proc f(y) { x1 = y; }")

    def test_a_local_of_several_procedures(self):
        program = parse("proc main() { ask x; call f(x, 1); } proc f(a, x) { x = a; } proc h() { call h() to x; }")
        self.assert_applied(
            program, ("rename", "x", "b"),
            "proc main() { ask b; call f(b, 1); } proc f(a, b) { b = a; } proc h() { call h() to b; }",
        )

    def test_a_parameter(self):
        program = parse("proc main() { call f(1, 2); } proc f(a, b) { tell (a + b); return a; }")
        self.assert_applied(
            program, ("rename", "a", "c"), "proc main() { call f(1, 2); } proc f(c, b) { tell (c + b); return c; }",
        )
        self.assert_applied(
            parse("proc f(a, b) { } proc main() { }"), ("rename", "b", "z"), "proc f(a, z) { } proc main() { }",
        )

    def test_names_of_procedures_stay(self):
        program = parse("proc main() { ask f; call f(f) to f; } proc f(f) { call main() to f; }")
        self.assert_applied(
            program, ("rename", "f", "main"), "proc main() { ask main; call f(main) to main; } proc f(main) { call main() to main; }",
        )

    def test_no_such_variable(self):
        for old in ("nobody", "f", "main", "none", "", "X", "x ", "result", "in", "while", "1"):
            self.assert_problem(("rename", old, "new"), "name")

    def test_names_that_are_none(self):
        reserved = "global proc ask tell check need return if else while call to mod not and or".split()
        for new in (
            "", " ", "a b", " a", "a ", "a\n", "\na", "1", "1a", "_a", "A", "aB", "a-b", "a;", "x=", "a.b", "-", "abcdefghijklm",
            "(a)", "=", "==", "a$", *reserved,
        ):
            self.assert_problem(("rename", "x", new), "name")
            self.assert_problem(("rename", "nobody", new), "name")

    def test_names_that_are_some(self):
        for new in ("a", "a1", "a_", "abcdefghijkl", "globals", "ifs", "in", "out", "result", "main", "f", "none", "never"):
            found = apply(PROGRAM, ("rename", "x", new))
            self.assertEqual(found[1][0][2][0], ("ask", new))
            self.assertEqual(apply(found, ("rename", new, "x")), PROGRAM)

    def test_names_that_are_variables(self):
        for old in ("g", "h", "x", "p", "q", "r"):
            for new in ("g", "h", "x", "p", "q", "r"):
                self.assert_problem(("rename", old, new), "name")


class CallIt(EditTest):
    def test_with_calls_in_every_procedure(self):
        program = parse("""
            proc f(p) { call f(p); if p < 1 { call f(1) to p; } else { while p < 2 { call h(); call f(2); } } }
            proc main() { call f(1); call h(); call main() to f; tell f; }
            proc h() { call f(f); ask f; }
        """)
        self.assert_applied(program, ("call it", "f", "new"), """
            proc new(p) { call new(p); if p < 1 { call new(1) to p; } else { while p < 2 { call h(); call new(2); } } }
            proc main() { call new(1); call h(); call main() to f; tell f; }
            proc h() { call new(f); ask f; }
        """)
        self.assertEqual(undo(program, ("call it", "f", "new")), ("call it", "new", "f"))

    def test_a_procedure_that_is_not_called(self):
        self.assert_applied(
            parse("proc f() { } proc main() { } proc h(x) { }"), ("call it", "h", "a"),
            "proc f() { } proc main() { } proc a(x) { }",
        )

    def test_the_name_of_a_variable(self):
        program = parse("global g; proc main() { call f(g); } proc f(x) { ask x; }")
        self.assert_applied(program, ("call it", "f", "x"), "global g; proc main() { call x(g); } proc x(x) { ask x; }")
        self.assert_applied(program, ("call it", "f", "g"), "global g; proc main() { call g(g); } proc g(x) { ask x; }")

    def test_no_such_procedure_or_main(self):
        for old in ("main", "nobody", "g", "x", "", "F"):
            for new in ("new", "main", "f", "if", ""):
                self.assert_problem(("call it", old, new), "procedure")

    def test_names_that_are_none_or_procedures(self):
        reserved = "global proc ask tell check need return if else while call to mod not and or".split()
        for new in (
            "main", "f", "none", "", " ", "a b", " a", "a ", "1", "_a", "A", "abcdefghijklm", "-", "a\n", *reserved,
        ):
            self.assert_problem(("call it", "f", new), "name")


class AddAndDrop(EditTest):
    def test_add(self):
        program = parse("global g; proc main() { }")
        for text in ("proc f() { }", "proc f(a, b) { ask c; if a < g { call f(1, c) to b; call main(); } }", "proc a(f) { }"):
            edit = ("add", procedure(text))
            self.assert_applied(program, edit, "global g; proc main() { } " + text)
            self.assertEqual(undo(program, edit), ("drop", edit[1][0]))

    def test_add_one_that_does_not_pass(self):
        for text in (
            "proc main() { }", "proc f(a, b) { }", "proc none(x) { }", "proc new(g) { }", "proc new(a, a) { }",
            "proc new(a, b, c, d, e) { }", "proc new() { tell a; }", "proc new() { call f(1); }", "proc new() { call newer(); }",
            "proc new() { call new(1); }", "proc new() { " + "tell 1; " * 41 + "}",
            "proc new() { " + "".join(f"ask a{k}; " for k in range(9)) + "}",
        ):
            self.assert_problem(("add", procedure(text)), "result")

    def test_at_most_eight_procedures(self):
        program = parse("proc main() { }" + "".join(f"proc p{k}() {{ }}" for k in range(6)))
        program = apply(program, ("add", procedure("proc p6() { }")))
        self.assert_problem(("add", procedure("proc p7() { }")), "result", program)

    def test_drop(self):
        text = "proc a() { call b(); } proc main() { call b(); } proc b() { } proc c(x) { ask x; if 0 < 1 { call c(x); } }"
        program = parse(text)
        edit = ("drop", "c")
        self.assert_applied(program, edit, text.split("proc c")[0])
        self.assertEqual(undo(program, edit), ("add", program[1][3]))
        self.assertEqual(apply(program, ("drop", "a")), parse("proc" + text.split("proc", 2)[2]))

    def test_drop_of_one_that_is_not_the_last(self):
        program = parse("proc a() { } proc main() { } proc b() { call b(); } proc c() { }")
        for name in ("a", "b"):
            self.assertEqual(apply(program, ("drop", name)), ((), tuple(row for row in program[1] if row[0] != name)))
            with self.assertRaises(EditProblem) as caught:
                undo(program, ("drop", name))
            self.assertEqual(caught.exception.reason, "last")
        self.assertEqual(undo(program, ("drop", "c")), ("add", ("c", (), ())))

    def test_drop_of_main_or_of_no_procedure(self):
        for name in ("main", "nobody", "g", "x", ""):
            self.assert_problem(("drop", name), "procedure")
        self.assert_problem(("drop", "main"), "procedure", parse("proc main() { call main(); }"))
        self.assert_problem(("drop", "main"), "procedure", parse("proc main() { } proc f() { call main(); }"))

    def test_drop_of_one_that_is_called(self):
        for body in (
            "call f();", "call f() to x;", "if 0 < 1 { call f(); }", "if 0 < 1 { } else { tell 1; call f(); }",
            "while 0 < 1 { while 0 < 1 { call f() to x; } }",
        ):
            for text in (
                "proc f() { } proc main() { } proc h() { " + body + " }",
                "proc f() { call f(); } proc h() { } proc main() { " + body + " }",
                "proc h() { " + body + " } proc main() { } proc f() { }",
            ):
                # That it is not the last one comes later.
                self.assert_problem(("drop", "f"), "used", parse(text))


class MadeEdits(EditTest):
    def test_undo_gives_the_program_back(self):
        words = set()
        for number in range(400):
            program = (made_program, lively_program)[number % 2](number)
            edit = made_edit(program, number)
            try:
                edited = apply(program, edit)
            except EditProblem as problem:
                self.assert_problem(edit, problem.reason, program)
                continue
            check_program(edited)
            self.assertEqual(parse(write(edited)), edited)
            if edit[0] == "drop" and program[1][-1][0] != edit[1]:
                self.assertRaises(EditProblem, undo, program, edit)
                continue
            words.add(edit[0])
            self.assertEqual(apply(edited, undo(program, edit)), program)
        self.assertEqual(words, {"replace", "insert", "delete", "swap", "rename", "call it", "add", "drop"})


class MovedPlaces(unittest.TestCase):
    """Statements are told by their marks; a new one has a mark of its own."""

    def marks_of(self, program):
        found = {}
        for name, _, _ in program[1]:
            for place in places(program, name):
                known = statement_at(program, name, place)
                if known is not None:
                    found.setdefault(self.mark(known), []).append((name, place))
        return found

    def mark(self, known):
        return (known[0], known[3]) if known[0] == "call" else (known[0], mark_of(known) if known[0] != "set" else known[1])

    def assert_moves(self, program, edit):
        new = self.marks_of(apply(program, edit))
        for mark, found in self.marks_of(program).items():
            self.assertEqual(len(found), 1)
            moved = moved_place(program, edit, *found[0])
            with self.subTest(edit=edit, place=found):
                self.assertIn(moved, new.get(mark, [None]))
                self.assertLessEqual(len(new.get(mark, [])), 1)
        for name, _, _ in program[1]:
            for place in ("in", "out"):
                self.assertEqual(moved_place(program, edit, name, place), (name, place))

    def test_path_edits_of_the_whole_procedure(self):
        for around, many in BLOCKS.items():
            for index in range(many + 1):
                path = (*around, index)
                for new in (NEW, NEW_LOOP):
                    self.assert_moves(PROGRAM, ("insert", "main", path, new))
                    if index < many and path != (0,):
                        self.assert_moves(PROGRAM, ("replace", "main", path, new))
                if index < many and path != (0,):
                    self.assert_moves(PROGRAM, ("delete", "main", path))
                if index < many - 1:
                    self.assert_moves(PROGRAM, ("swap", "main", path))

    def test_path_edits_of_another_procedure(self):
        for edit in (
            ("replace", "f", (1,), NEW), ("insert", "f", (0,), NEW), ("insert", "f", (2,), NEW), ("delete", "f", (1,)),
            ("swap", "f", (0,)), ("insert", "none", (0,), NEW),
        ):
            self.assert_moves(PROGRAM, edit)

    def test_written_out(self):
        cases = (
            (("replace", "main", (1,), NEW), {"0": "0", "1": None, "1.0.0": None, "1.1.2": None, "1.0.1.0.0": None, "2": "2"}),
            (("replace", "main", (1, 0, 1), NEW), {"1": "1", "1.0.0": "1.0.0", "1.0.1": None, "1.0.1.0.1": None, "1.1.1": "1.1.1"}),
            (("insert", "main", (1,), NEW), {"0": "0", "1": "2", "1.0.1.0.1": "2.0.1.0.1", "3": "4"}),
            (("insert", "main", (4,), NEW), {"0": "0", "3": "3", "2.0.1.0.0": "2.0.1.0.0"}),
            (("insert", "main", (1, 0, 1), NEW), {
                "1": "1", "1.0.0": "1.0.0", "1.0.1": "1.0.2", "1.0.1.0.0": "1.0.2.0.0", "1.1.1": "1.1.1", "2.0.1": "2.0.1"}),
            (("insert", "main", (1, 1, 0), NEW), {"1.1.0": "1.1.1", "1.1.2": "1.1.3", "1.0.0": "1.0.0"}),
            (("delete", "main", (1,)), {"0": "0", "1": None, "1.1.0": None, "2": "1", "2.0.1.0.0": "1.0.1.0.0", "3": "2"}),
            (("delete", "main", (2, 0, 0)), {"2": "2", "2.0.0": None, "2.0.1": "2.0.0", "2.0.1.0.0": "2.0.0.0.0", "1.0.1": "1.0.1"}),
            (("swap", "main", (1,)), {"0": "0", "1": "2", "1.0.1.0.0": "2.0.1.0.0", "2": "1", "2.0.0": "1.0.0", "3": "3"}),
            (("swap", "main", (1, 1, 1)), {"1.1.0": "1.1.0", "1.1.1": "1.1.2", "1.1.2": "1.1.1", "1.0.1": "1.0.1"}),
        )
        for edit, moves in cases:
            for place, wanted in moves.items():
                with self.subTest(edit=edit, place=place):
                    found = moved_place(PROGRAM, edit, "main", place)
                    self.assertEqual(found, None if wanted is None else ("main", wanted))
            for name, place in (("f", "0"), ("f", "1"), ("f", "in"), ("none", "out"), ("main", "in"), ("main", "out")):
                self.assertEqual(moved_place(PROGRAM, edit, name, place), (name, place))

    def test_replace_by_the_same_statement_moves_nothing_there(self):
        edit = ("replace", "main", (2,), statement_at(PROGRAM, "main", "2"))
        for place in ("2", "2.0.0", "2.0.1", "2.0.1.0.0"):
            self.assertIsNone(moved_place(PROGRAM, edit, "main", place))

    def assert_all_stay(self, edit, names, **new_names):
        for name in names:
            for place in places(PROGRAM, name):
                self.assertEqual(moved_place(PROGRAM, edit, name, place), (new_names.get(name, name), place))

    def test_rename_and_add(self):
        self.assert_all_stay(("rename", "x", "y"), ("main", "f", "none"))
        self.assert_all_stay(("rename", "g", "f1"), ("main", "f", "none"))
        self.assert_all_stay(("rename", "x", "main"), ("main", "f", "none"))
        self.assert_all_stay(("add", procedure("proc new() { ask x; }")), ("main", "f", "none"))

    def test_a_rename_of_the_name_of_a_procedure(self):
        program = parse("proc main() { ask f; ask main; tell 1; } proc f() { ask x; }")
        for edit in (("rename", "f", "x1"), ("rename", "main", "x1"), ("rename", "x", "f1")):
            for name, place in (("main", "0"), ("main", "2"), ("f", "0"), ("f", "in"), ("main", "out")):
                self.assertEqual(moved_place(program, edit, name, place), (name, place))

    def test_call_it(self):
        self.assert_all_stay(("call it", "f", "new"), ("main", "f", "none"), f="new")
        self.assert_all_stay(("call it", "none", "x"), ("main", "f", "none"), none="x")

    def test_drop(self):
        for name, others in (("f", ("main", "none")), ("none", ("main", "f"))):
            self.assert_all_stay(("drop", name), others)
            for place in places(PROGRAM, name):
                self.assertIsNone(moved_place(PROGRAM, ("drop", name), name, place))


if __name__ == "__main__":
    unittest.main()
