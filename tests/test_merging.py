"""Points 37 and 38: rebase and both."""

import itertools
import unittest

from carryclaim.edits import apply, moved_place
from carryclaim.errors import Clash, EditProblem
from carryclaim.merging import both, rebase
from carryclaim.parser import parse
from carryclaim.places import statement_at
from carryclaim.writer import write
from tests.made import lively_program, made_edit, made_program

PROGRAM = parse("""
    global g;
    proc main() {
        ask x;
        if x < 1 {
            tell 10;
            tell 11;
        } else {
            tell 12;
        }
        while x < 2 {
            tell 13;
            if x < 3 {
            }
        }
        call f(1);
    }
    proc f(p) {
        ask q;
        tell 20;
        tell 21;
    }
    proc last() {
        tell 30;
    }
""")


def statement(text):
    return parse("proc main() { " + text + " }")[1][0][2][0]


def procedure(text):
    return parse(text)[1][0]


NEW = statement("tell 98;")
NEWER = statement("tell 99;")


class RebaseTest(unittest.TestCase):
    def assert_rebased(self, edit, other, wanted, program=PROGRAM):
        with self.subTest(edit=edit, other=other):
            apply(program, edit)
            before = write(program)
            found = rebase(program, edit, other)
            self.assertEqual(found, wanted)
            self.assertEqual(both(program, other, edit), apply(apply(program, other), wanted))
            self.assertEqual(write(program), before)

    def assert_clash(self, edit, other, reason, program=PROGRAM):
        apply(program, edit)
        apply(program, other)
        for function, arguments in ((rebase, (edit, other)), (both, (other, edit))):
            with self.subTest(edit=edit, other=other), self.assertRaises(Clash) as caught:
                function(program, *arguments)
            self.assertEqual(caught.exception.reason, reason)


class Paths(RebaseTest):
    def assert_paths(self, other, moves):
        """Where the other edit takes replace, delete and swap of some paths of main."""
        for path, wanted in moves.items():
            for word, tail in (("replace", (NEWER,)), ("delete", ()), ("swap", ())):
                edit = (word, "main", path, *tail)
                if self.applies(edit) and word in ("replace", "delete") and wanted is None:
                    self.assert_clash(edit, other, "place")
                elif self.applies(edit) and word in ("replace", "delete"):
                    self.assert_rebased(edit, other, (word, "main", wanted, *tail))

    def applies(self, edit, program=PROGRAM):
        try:
            apply(program, edit)
        except EditProblem:
            return False
        return True

    def test_behind_an_insert(self):
        self.assert_paths(("insert", "main", (1,), NEW), {
            (1,): (2,), (1, 0, 0): (2, 0, 0), (1, 0, 1): (2, 0, 1), (1, 1, 0): (2, 1, 0), (2,): (3,), (2, 0, 1): (3, 0, 1), (3,): (4,),
        })
        self.assert_paths(("insert", "main", (1, 0, 1), NEW), {
            (1,): (1,), (1, 0, 0): (1, 0, 0), (1, 0, 1): (1, 0, 2), (1, 1, 0): (1, 1, 0), (2,): (2,), (2, 0, 1): (2, 0, 1),
        })
        self.assert_paths(("insert", "main", (4,), NEW), {(1,): (1,), (2, 0, 0): (2, 0, 0), (3,): (3,)})
        self.assert_paths(("insert", "f", (0,), NEW), {(1,): (1,), (3,): (3,)})

    def test_behind_a_delete(self):
        self.assert_paths(("delete", "main", (1,)), {
            (1,): None, (1, 0, 0): None, (1, 0, 1): None, (1, 1, 0): None, (2,): (1,), (2, 0, 1): (1, 0, 1), (3,): (2,),
        })
        self.assert_paths(("delete", "main", (1, 0, 0)), {(1,): (1,), (1, 0, 0): None, (1, 0, 1): (1, 0, 0), (1, 1, 0): (1, 1, 0)})

    def test_behind_a_replace(self):
        self.assert_paths(("replace", "main", (2,), NEW), {
            (1,): (1,), (1, 0, 0): (1, 0, 0), (2,): None, (2, 0, 0): None, (2, 0, 1): None, (3,): (3,),
        })
        self.assert_paths(("replace", "main", (2, 0, 0), NEW), {(2,): (2,), (2, 0, 0): None, (2, 0, 1): (2, 0, 1)})
        # The same statement in the old one's place is another one.
        self.assert_paths(("replace", "main", (2,), statement_at(PROGRAM, "main", "2")), {(2,): None, (2, 0, 0): None})

    def test_behind_a_swap(self):
        self.assert_paths(("swap", "main", (1,)), {
            (1,): (2,), (1, 0, 0): (2, 0, 0), (1, 1, 0): (2, 1, 0), (2,): (1,), (2, 0, 1): (1, 0, 1), (3,): (3,),
        })
        self.assert_paths(("swap", "main", (1, 0, 0)), {(1,): (1,), (1, 0, 0): (1, 0, 1), (1, 0, 1): (1, 0, 0), (2,): (2,)})

    def test_behind_edits_without_paths(self):
        for other in (("add", procedure("proc new() { }")), ("drop", "last")):
            self.assert_paths(other, {(1,): (1,), (1, 0, 1): (1, 0, 1), (3,): (3,)})

    def test_swap(self):
        swap = ("swap", "main", (1,))
        self.assert_rebased(swap, ("insert", "main", (0,), NEW), ("swap", "main", (2,)))
        self.assert_rebased(swap, ("insert", "main", (1,), NEW), ("swap", "main", (2,)))
        self.assert_clash(swap, ("insert", "main", (2,), NEW), "place")
        self.assert_rebased(swap, ("insert", "main", (3,), NEW), swap)
        self.assert_rebased(swap, ("insert", "main", (1, 0, 0), NEW), swap)
        self.assert_rebased(swap, ("insert", "main", (2, 0, 2), NEW), swap)
        self.assert_clash(swap, ("delete", "main", (1,)), "place")
        self.assert_clash(swap, ("delete", "main", (2,)), "place")
        self.assert_rebased(swap, ("delete", "main", (3,)), swap)
        self.assert_clash(swap, ("replace", "main", (1,), NEW), "place")
        self.assert_clash(swap, ("replace", "main", (2,), NEW), "place")
        self.assert_rebased(swap, ("replace", "main", (3,), NEW), swap)
        self.assert_clash(swap, swap, "place")
        self.assert_clash(swap, ("swap", "main", (0,)), "place")
        self.assert_clash(swap, ("swap", "main", (2,)), "place")
        self.assert_rebased(swap, ("swap", "main", (1, 0, 0)), swap)
        program = parse("proc main() { tell 0; tell 1; tell 2; tell 3; tell 4; tell 5; }")
        self.assert_rebased(swap, ("delete", "main", (0,)), ("swap", "main", (0,)), program)
        self.assert_rebased(swap, ("swap", "main", (3,)), swap, program)
        self.assert_rebased(("swap", "main", (3,)), swap, ("swap", "main", (3,)), program)
        inner = ("swap", "main", (1, 0, 0))
        self.assert_rebased(inner, swap, ("swap", "main", (2, 0, 0)))
        self.assert_rebased(inner, ("insert", "main", (1, 1, 0), NEW), inner)
        self.assert_clash(inner, ("insert", "main", (1, 0, 1), NEW), "place")
        self.assert_rebased(inner, ("insert", "main", (1, 0, 2), NEW), inner)
        self.assert_clash(inner, ("delete", "main", (1,)), "place")

    def test_swap_of_the_neighbours_of_a_swap(self):
        program = parse("proc main() { tell 0; tell 1; tell 2; }")
        self.assert_clash(("swap", "main", (0,)), ("swap", "main", (1,)), "place", program)
        self.assert_clash(("swap", "main", (1,)), ("swap", "main", (0,)), "place", program)


class Inserts(RebaseTest):
    def insert(self, *path):
        return ("insert", "main", path, NEWER)

    def test_in_front_of_a_statement(self):
        other = ("insert", "main", (2,), NEW)
        self.assert_rebased(self.insert(1), other, self.insert(1))
        self.assert_rebased(self.insert(3), other, self.insert(4))
        self.assert_rebased(self.insert(2, 0, 0), other, self.insert(3, 0, 0))
        self.assert_rebased(self.insert(1, 0, 1), other, self.insert(1, 0, 1))
        other = ("delete", "main", (2,))
        self.assert_rebased(self.insert(0), other, self.insert(0))
        self.assert_clash(self.insert(2), other, "place")
        self.assert_rebased(self.insert(3), other, self.insert(2))
        self.assert_clash(self.insert(2, 0, 0), other, "place")
        other = ("replace", "main", (1,), NEW)
        self.assert_clash(self.insert(1), other, "place")
        self.assert_clash(self.insert(1, 0, 0), other, "place")
        self.assert_clash(self.insert(1, 1, 0), other, "place")
        self.assert_rebased(self.insert(2), other, self.insert(2))
        other = ("swap", "main", (1,))
        self.assert_rebased(self.insert(0), other, self.insert(0))
        self.assert_rebased(self.insert(2), other, self.insert(1))
        self.assert_rebased(self.insert(3), other, self.insert(3))
        self.assert_rebased(self.insert(1, 0, 0), other, self.insert(2, 0, 0))
        self.assert_rebased(self.insert(2, 0, 1), other, self.insert(1, 0, 1))

    def test_at_the_same_path(self):
        for path in ((0,), (1,), (3,), (4,), (1, 0, 0), (1, 0, 2), (1, 1, 1), (2, 0, 1, 0, 0), (2, 0, 1, 1, 0)):
            self.assert_clash(("insert", "main", path, NEWER), ("insert", "main", path, NEW), "place")
            self.assert_clash(("insert", "main", path, NEW), ("insert", "main", path, NEW), "place")
        for path in ((0,), (1,), (2,), (1, 0, 0), (2, 0, 0)):
            self.assert_clash(self.insert(*path), ("swap", "main", path), "place")

    def test_at_the_same_path_of_another_procedure(self):
        self.assert_rebased(self.insert(0), ("insert", "f", (0,), NEW), self.insert(0))
        self.assert_rebased(self.insert(1), ("swap", "f", (1,)), self.insert(1))
        self.assert_rebased(("insert", "last", (1,), NEW), ("insert", "main", (1,), NEW), ("insert", "last", (1,), NEW))

    def test_at_the_same_path_as_other_edits(self):
        self.assert_rebased(("swap", "main", (1,)), ("insert", "main", (1,), NEW), ("swap", "main", (2,)))
        self.assert_rebased(("delete", "main", (1,)), ("insert", "main", (1,), NEW), ("delete", "main", (2,)))
        self.assert_rebased(("replace", "main", (1,), NEWER), ("insert", "main", (1,), NEW), ("replace", "main", (2,), NEWER))

    def test_at_the_end_of_the_procedure(self):
        self.assert_rebased(self.insert(4), ("insert", "main", (0,), NEW), self.insert(5))
        self.assert_rebased(self.insert(4), ("insert", "main", (3,), NEW), self.insert(5))
        self.assert_rebased(self.insert(4), ("insert", "main", (1, 0, 0), NEW), self.insert(4))
        self.assert_rebased(self.insert(4), ("delete", "main", (3,)), self.insert(3))
        self.assert_rebased(self.insert(4), ("delete", "main", (1,)), self.insert(3))
        self.assert_rebased(self.insert(4), ("delete", "main", (1, 0, 0)), self.insert(4))
        self.assert_rebased(self.insert(4), ("replace", "main", (3,), NEW), self.insert(4))
        self.assert_rebased(self.insert(4), ("swap", "main", (2,)), self.insert(4))
        self.assert_rebased(self.insert(4), ("insert", "f", (0,), NEW), self.insert(4))
        self.assert_rebased(self.insert(4), ("rename", "x", "y"), self.insert(4))
        self.assert_rebased(self.insert(4), ("call it", "f", "h"), self.insert(4))
        self.assert_rebased(("insert", "f", (3,), NEW), ("call it", "f", "h"), ("insert", "h", (3,), NEW))
        self.assert_clash(("insert", "last", (1,), NEW), ("drop", "last"), "place")

    def test_at_the_end_of_a_block(self):
        self.assert_rebased(self.insert(1, 0, 2), ("insert", "main", (1, 0, 0), NEW), self.insert(1, 0, 3))
        self.assert_rebased(self.insert(1, 0, 2), ("insert", "main", (1, 0, 1), NEW), self.insert(1, 0, 3))
        self.assert_rebased(self.insert(1, 0, 2), ("insert", "main", (1, 1, 1), NEW), self.insert(1, 0, 2))
        self.assert_rebased(self.insert(1, 1, 1), ("insert", "main", (1, 0, 2), NEW), self.insert(1, 1, 1))
        self.assert_rebased(self.insert(1, 1, 1), ("insert", "main", (1, 1, 0), NEW), self.insert(1, 1, 2))
        self.assert_rebased(self.insert(1, 0, 2), ("delete", "main", (1, 0, 1)), self.insert(1, 0, 1))
        self.assert_rebased(self.insert(1, 1, 1), ("delete", "main", (1, 1, 0)), self.insert(1, 1, 0))
        self.assert_rebased(self.insert(1, 1, 1), ("replace", "main", (1, 1, 0), NEW), self.insert(1, 1, 1))
        self.assert_rebased(self.insert(1, 0, 2), ("swap", "main", (1, 0, 0)), self.insert(1, 0, 2))
        self.assert_rebased(self.insert(1, 0, 2), ("insert", "main", (0,), NEW), self.insert(2, 0, 2))
        self.assert_rebased(self.insert(1, 1, 1), ("swap", "main", (1,)), self.insert(2, 1, 1))
        self.assert_rebased(self.insert(2, 0, 2), ("swap", "main", (1,)), self.insert(1, 0, 2))
        self.assert_rebased(self.insert(2, 0, 2), ("delete", "main", (1,)), self.insert(1, 0, 2))
        self.assert_rebased(self.insert(2, 0, 1, 0, 0), ("delete", "main", (2, 0, 0)), self.insert(2, 0, 0, 0, 0))
        self.assert_rebased(self.insert(2, 0, 1, 1, 0), ("insert", "main", (2, 0, 0), NEW), self.insert(2, 0, 2, 1, 0))
        self.assert_rebased(self.insert(2, 0, 1, 1, 0), ("insert", "main", (2, 0, 1, 0, 0), NEW), self.insert(2, 0, 1, 1, 0))

    def test_at_the_end_of_a_block_that_there_is_no_more(self):
        for path in ((1, 0, 2), (1, 1, 1)):
            self.assert_clash(self.insert(*path), ("delete", "main", (1,)), "place")
            self.assert_clash(self.insert(*path), ("replace", "main", (1,), NEW), "place")
            same = statement_at(PROGRAM, "main", "1")
            self.assert_clash(self.insert(*path), ("replace", "main", (1,), same), "place")
        for path in ((2, 0, 2), (2, 0, 1, 0, 0), (2, 0, 1, 1, 0)):
            self.assert_clash(self.insert(*path), ("delete", "main", (2,)), "place")
        for path in ((2, 0, 1, 0, 0), (2, 0, 1, 1, 0)):
            self.assert_clash(self.insert(*path), ("delete", "main", (2, 0, 1)), "place")


class Names(RebaseTest):
    EVERY = parse("""
        proc main() { ask x; x = (x + (1 - x)); tell x; check [x < x or not x == y]; need x < 1; return x; call x(x, 1) to x;
            while x < 2 { if x < 3 { ask x; } else { tell x; } } y = x; }
    """)[1][0]

    def changed(self, old, new):
        """The same procedure with another name of a variable."""
        text = write(((), (self.EVERY,))).replace("call x(", "call X(")
        text = text.replace("x", new) if old == "x" else text
        return parse(text.replace("X", "x"))[1][0]

    def test_a_rename_changes_statements(self):
        program = parse("proc main() { ask x; tell 1; ask y; } proc x(a, b) { }")
        changed = self.changed("x", "new")[2]
        for old, new in zip(self.EVERY[2], changed):
            for word in ("insert", "replace"):
                self.assert_rebased((word, "main", (1,), old), ("rename", "x", "new"), (word, "main", (1,), new), program)
            self.assert_rebased(("insert", "main", (1,), old), ("call it", "x", "z"), (
                "insert", "main", (1,), old if old[0] != "call" else ("call", "z", *old[2:])), program)

    def test_a_rename_of_a_name_that_the_statement_brings_to_its_procedure(self):
        edit = ("insert", "last", (0,), statement("ask x;"))
        self.assert_rebased(edit, ("rename", "x", "z"), ("insert", "last", (0,), ("ask", "z")))
        self.assert_rebased(("rename", "x", "z"), edit, ("rename", "x", "z"))

    def test_a_rename_changes_added_procedures(self):
        edit = ("add", procedure("proc new(x, y, p) { y = x; while g < p { ask x; } call f(x) to x; }"))
        wanted = procedure("proc new(z, y, p) { y = z; while g < p { ask z; } call f(z) to z; }")
        self.assert_rebased(edit, ("rename", "x", "z"), ("add", wanted))
        wanted = procedure("proc new(x, y, p) { y = x; while z < p { ask x; } call f(x) to x; }")
        self.assert_rebased(edit, ("rename", "g", "z"), ("add", wanted))
        wanted = procedure("proc new(x, y, z) { y = x; while g < z { ask x; } call f(x) to x; }")
        self.assert_rebased(edit, ("rename", "p", "z"), ("add", wanted))
        wanted = procedure("proc new(x, y, p) { y = x; while g < p { ask x; } call z(x) to x; }")
        self.assert_rebased(edit, ("call it", "f", "z"), ("add", wanted))
        self.assert_rebased(edit, ("call it", "last", "z"), edit)
        edit = ("add", procedure("proc x(g1) { call x(1); call f(g); ask last; }"))
        wanted = procedure("proc x(g1) { call x(1); call f(z); ask last; }")
        self.assert_rebased(edit, ("rename", "g", "z"), ("add", wanted))
        self.assert_rebased(edit, ("rename", "x", "z"), edit)
        self.assert_rebased(edit, ("call it", "last", "z"), edit)

    def test_the_name_of_the_procedure_of_an_edit(self):
        other = ("call it", "f", "z")
        for edit in (
            ("replace", "f", (1,), NEW), ("insert", "f", (0,), NEW), ("insert", "f", (3,), NEW), ("delete", "f", (1,)),
            ("swap", "f", (1,)),
        ):
            self.assert_rebased(edit, other, (edit[0], "z", *edit[2:]))
        for edit in (
            ("replace", "main", (1,), NEW), ("insert", "last", (0,), NEW), ("delete", "main", (1,)), ("swap", "main", (1,)),
            ("drop", "last"), ("call it", "last", "new"), ("rename", "x", "f"), ("rename", "p", "y"),
        ):
            self.assert_rebased(edit, other, edit)
        self.assert_rebased(("drop", "last"), ("call it", "last", "z"), ("drop", "z"))

    def test_statements_that_call_a_procedure_that_is_renamed(self):
        edit = ("insert", "main", (1,), statement("if 0 < 1 { call f(x) to g; } else { while 0 < 1 { call last(); } }"))
        wanted = ("insert", "main", (1,), statement("if 0 < 1 { call z(x) to g; } else { while 0 < 1 { call last(); } }"))
        self.assert_rebased(edit, ("call it", "f", "z"), wanted)
        edit = ("replace", "f", (1,), statement("call f(p);"))
        self.assert_rebased(edit, ("call it", "f", "z"), ("replace", "z", (1,), statement("call z(p);")))

    def test_edits_that_names_do_not_change(self):
        for edit in (
            ("delete", "main", (1,)), ("swap", "main", (1,)), ("drop", "last"), ("call it", "f", "x"), ("call it", "last", "g"),
            ("rename", "g", "new"), ("rename", "q", "f"), ("insert", "main", (0,), NEW),
        ):
            self.assert_rebased(edit, ("rename", "x", "y"), edit)
            if edit[0] != "drop":
                self.assert_rebased(edit, ("add", procedure("proc z() { }")), edit)

    def test_two_edits_of_one_name(self):
        self.assert_clash(("rename", "x", "a"), ("rename", "x", "b"), "name")
        self.assert_clash(("rename", "x", "a"), ("rename", "x", "a"), "name")
        self.assert_clash(("rename", "g", "a"), ("rename", "g", "b"), "name")
        self.assert_clash(("call it", "f", "a"), ("call it", "f", "b"), "name")
        self.assert_clash(("call it", "f", "a"), ("call it", "f", "a"), "name")
        self.assert_rebased(("rename", "x", "a"), ("rename", "g", "b"), ("rename", "x", "a"))
        self.assert_rebased(("call it", "f", "a"), ("call it", "last", "b"), ("call it", "f", "a"))
        program = parse("proc main() { ask f; } proc f() { }")
        self.assert_rebased(("rename", "f", "a"), ("call it", "f", "b"), ("rename", "f", "a"), program)
        self.assert_rebased(("call it", "f", "a"), ("rename", "f", "b"), ("call it", "f", "a"), program)
        self.assert_rebased(("call it", "f", "a"), ("rename", "f", "a"), ("call it", "f", "a"), program)

    def test_two_adds(self):
        one = ("add", procedure("proc one() { }"))
        self.assert_clash(one, one, "name")
        self.assert_clash(one, ("add", procedure("proc two() { }")), "name")

    def test_a_rename_to_a_variable_of_the_statement(self):
        other = ("rename", "x", "new")
        for text in (
            "tell (1 + new);", "check [x < 1 and not (new / 2) < 1];", "need new < 1;", "return new;", "call f(new);",
            "if new < 1 { }", "while 1 < new { }", "if 0 < 1 { } else { while 0 < 1 { if 0 < 1 { call f((new * 2)); } } }",
        ):
            # The edit must bring the variable itself.
            made = ("if", statement("need 0 < 1;")[1], (statement("ask new;"), statement(text)), ())
            for edit in (("insert", "main", (1,), made), ("replace", "main", (1,), made)):
                self.assert_clash(edit, other, "name")
                self.assert_clash(other, edit, "result")
        for text in ("ask new;", "new = 1;", "call f(1) to new;", "if 0 < 1 { } else { ask new; }", "while 0 < 1 { new = x; }"):
            for edit in (("insert", "main", (1,), statement(text)), ("replace", "main", (1,), statement(text))):
                self.assert_clash(edit, other, "name")
                self.assert_clash(other, edit, "result")

    def test_a_name_that_stands_in_an_expression_alone(self):
        # A statement that uses a variable and does not bring it: it is brought by the statement ahead.
        program = parse("proc main() { ask a; } proc f() { ask x; }")
        edit = ("insert", "main", (1,), statement("while 0 < 1 { need a < 1; b = (1 - a); }"))
        self.assert_clash(edit, ("rename", "x", "b"), "name", program)
        wanted = ("insert", "main", (1,), statement("while 0 < 1 { need c < 1; b = (1 - c); }"))
        self.assert_rebased(edit, ("rename", "a", "c"), wanted, program)

    def test_a_rename_to_a_variable_in_a_part_of_the_statement_alone(self):
        # The variable is in the statement's procedure by nothing but the statement's own target.
        for text in ("call f(1) to new;", "new = new;", "while 0 < 1 { new = 1; }"):
            self.assert_clash(("insert", "last", (0,), statement(text)), ("rename", "x", "new"), "name")

    def test_a_rename_to_the_name_of_a_procedure_that_is_called(self):
        edit = ("insert", "main", (1,), statement("call f(x);"))
        self.assert_rebased(edit, ("rename", "x", "f"), ("insert", "main", (1,), statement("call f(f);")))
        edit = ("add", procedure("proc new() { call new(); call f(1); }"))
        self.assert_rebased(edit, ("rename", "x", "new"), edit)
        self.assert_rebased(edit, ("rename", "x", "f"), edit)

    def test_a_rename_to_a_variable_of_the_added_procedure(self):
        for text in (
            "proc a(new) { }", "proc a(b, new) { tell b; }", "proc a() { ask new; }", "proc a() { if 0 < 1 { new = 1; } }",
            "proc a() { call f(1) to new; }", "proc a(new) { tell (new - 1); }",
        ):
            edit = ("add", procedure(text))
            self.assert_clash(edit, ("rename", "x", "new"), "name")
            self.assert_clash(edit, ("rename", "g", "new"), "name")
            self.assert_clash(("rename", "x", "new"), edit, "result")
            self.assert_rebased(edit, ("rename", "x", "newer"), edit)
            self.assert_rebased(edit, ("call it", "f", "new"), ("add", procedure(text.replace("call f", "call new"))))

    def test_two_renames_to_one_name(self):
        self.assert_clash(("rename", "x", "a"), ("rename", "g", "a"), "result")
        self.assert_clash(("call it", "f", "a"), ("call it", "last", "a"), "result")


class Places(RebaseTest):
    def test_the_procedure_was_dropped(self):
        other = ("drop", "last")
        for edit in (
            ("replace", "last", (0,), NEW), ("insert", "last", (0,), NEW), ("insert", "last", (1,), NEW), ("delete", "last", (0,)),
        ):
            self.assert_clash(edit, other, "place")
        program = apply(PROGRAM, ("insert", "last", (0,), statement("if 0 < 1 { tell 1; tell 2; }")))
        for edit in (("swap", "last", (0,)), ("swap", "last", (0, 0, 0)), ("insert", "last", (0, 1, 0), NEW),
                     ("insert", "last", (2,), statement("call f(1);"))):
            self.assert_clash(edit, other, "place", program)

    def test_the_procedure_was_dropped_and_the_edit_has_no_path(self):
        self.assert_clash(("drop", "last"), ("drop", "last"), "result")
        self.assert_clash(("call it", "last", "z"), ("drop", "last"), "result")
        program = apply(PROGRAM, ("insert", "last", (0,), statement("ask only;")))
        self.assert_clash(("rename", "only", "z"), ("drop", "last"), "result", program)
        self.assert_rebased(("rename", "x", "z"), ("drop", "last"), ("rename", "x", "z"), program)
        self.assert_rebased(("call it", "f", "z"), ("drop", "last"), ("call it", "f", "z"), program)

    def test_edits_that_do_not_apply_any_more(self):
        call = statement("call last();")
        self.assert_clash(("insert", "main", (0,), call), ("drop", "last"), "result")
        self.assert_clash(("drop", "last"), ("insert", "main", (0,), call), "result")
        self.assert_clash(("add", procedure("proc z() { call last(); }")), ("drop", "last"), "result")
        self.assert_clash(("drop", "last"), ("add", procedure("proc z() { call last(); }")), "result")
        self.assert_clash(("add", procedure("proc z() { }")), ("call it", "f", "z"), "result")
        self.assert_clash(("call it", "f", "z"), ("add", procedure("proc z() { }")), "result")
        program = parse("proc main() { ask x; ask x; tell x; }")
        self.assert_clash(("delete", "main", (0,)), ("delete", "main", (1,)), "result", program)
        self.assert_rebased(("delete", "main", (1,)), ("delete", "main", (2,)), ("delete", "main", (1,)), program)
        program = parse("proc main() { ask x; }")
        self.assert_clash(("rename", "x", "y"), ("delete", "main", (0,)), "result", program)
        self.assert_rebased(("delete", "main", (0,)), ("rename", "x", "y"), ("delete", "main", (0,)), program)
        self.assert_clash(("insert", "main", (1,), ("tell", ("name", "x"))), ("replace", "main", (0,), NEW), "result", program)
        program = parse("proc main() { " + "tell 1; " * 39 + "}")
        self.assert_clash(("insert", "main", (0,), NEW), ("insert", "main", (5,), NEW), "result", program)

    def test_a_program_with_seven_procedures(self):
        program = parse("proc main() { }" + "".join(f"proc p{k}() {{ }}" for k in range(6)))
        edit = ("add", procedure("proc new() { }"))
        self.assert_rebased(edit, ("drop", "p0"), edit, program)
        self.assert_rebased(("drop", "p0"), edit, ("drop", "p0"), program)


class AllPairs(unittest.TestCase):
    """All pairs of many edits: each is led to the same statements, and both orders to the same program."""

    SMALL = parse("""
        global g;
        proc main() { ask x; if x < 1 { tell 10; } else { tell 11; tell 12; } while g < 2 { } tell 13; }
        proc f(p) { while p < 3 { tell 14; call f(x) to x; } }
    """)
    STATEMENTS = tuple(map(statement, ("ask x;", "tell 20;", "k = 21;", "call f(22) to g;", "if 0 < 23 { ask k; } else { call main(); }")))

    def edits(self):
        found = [
            ("rename", old, new) for old in ("g", "x", "p") for new in ("k", "a", "f")
        ] + [
            ("call it", "f", "h"), ("call it", "f", "k"), ("drop", "f"), ("add", procedure("proc h(k) { call f(k); }")),
            ("add", procedure("proc k(x) { call k(g); }")), ("add", procedure("proc a() { }")),
        ]
        for name, paths in (("main", ((0,), (1,), (2,), (3,), (4,), (1, 0, 0), (1, 0, 1), (1, 1, 0), (1, 1, 1), (1, 1, 2), (2, 0, 0))),
                            ("f", ((0,), (1,), (0, 0, 0), (0, 0, 1), (0, 0, 2)))):
            for path in paths:
                found += [("delete", name, path), ("swap", name, path)]
                found += [(word, name, path, made) for word in ("insert", "replace") for made in self.STATEMENTS]
        return [edit for edit in found if self.applies(edit)]

    def applies(self, edit):
        try:
            apply(self.SMALL, edit)
        except EditProblem:
            return False
        return True

    def test_every_pair(self):
        reasons = {"name": 0, "place": 0, "result": 0, "": 0, "both": 0}
        edits = self.edits()
        self.assertGreater(len(edits), 130)
        rebased = {}
        for edit, other in itertools.product(edits, edits):
            try:
                rebased[edit, other] = rebase(self.SMALL, edit, other)
                reasons[""] += 1
            except Clash as clash:
                reasons[clash.reason] += 1
        for (edit, other), found in rebased.items():
            self.assert_led(edit, other, found)
            program = both(self.SMALL, other, edit)
            self.assertEqual(program, apply(apply(self.SMALL, other), found))
            if (other, edit) in rebased:
                reasons["both"] += 1
                self.assertEqual(program, both(self.SMALL, edit, other))
        for reason, many in reasons.items():
            self.assertGreater(many, 30, reason)

    def assert_led(self, edit, other, found):
        """A path leads where the old path's statement moved, or is the end of a block."""
        self.assertEqual(found[0], edit[0])
        if len(edit) < 3 or not isinstance(edit[2], tuple):
            return
        old, new = (".".join(map(str, row[2])) for row in (edit, found))
        if statement_at(self.SMALL, edit[1], old) is not None:
            self.assertEqual((found[1], new), moved_place(self.SMALL, other, edit[1], old))
        else:
            self.assertIsNone(statement_at(apply(self.SMALL, other), found[1], new))
            if len(edit[2]) > 2:
                around = ".".join(map(str, edit[2][:-2]))
                self.assertEqual(
                    (found[1], ".".join(map(str, found[2][:-2]))), moved_place(self.SMALL, other, edit[1], around),
                )
                self.assertEqual(found[2][-2], edit[2][-2])

    def test_made_programs(self):
        several = 0
        for number in range(250):
            program = (made_program, lively_program)[number % 2](number)
            found = []
            for more in range(7):
                edit = made_edit(program, f"{number} pair {more}")
                try:
                    apply(program, edit)
                    found.append(edit)
                except EditProblem:
                    continue
            for first, second in itertools.permutations(found, 2):
                try:
                    wanted = both(program, first, second)
                    other = both(program, second, first)
                except Clash:
                    continue
                several += 1
                self.assertEqual(wanted, other)
        self.assertGreater(several, 400)


if __name__ == "__main__":
    unittest.main()
