"""Points 39 to 44: the workshop, and what a journal makes anew."""

import random
import unittest

from carryclaim.carrying import carry
from carryclaim.edits import apply, moved_place
from carryclaim.errors import (
    Clash, ClaimError, EditProblem, Full, JournalProblem, NotEdited, NotMergeable, NoVersion, PaperProblem, ProgramProblem,
    SyntaxProblem,
)
from carryclaim.judging import claims, judge
from carryclaim.machine import run
from carryclaim.merging import both, rebase
from carryclaim.papers import blank_paper, write_paper
from carryclaim.parser import parse
from carryclaim.solving import repair, solve
from carryclaim.workshop import Workshop, replay
from carryclaim.writer import write
from tests.made import lively_program, made_edit, made_paper
from tests.test_promises import made_inputs

TEXT = """\
global g;
proc main() {
    ask x;
    ask y;
    check x < 100;
    g = (x / y);
    call f(x) to y;
    tell (g + y);
}
proc f(p) {
    return (10 / p);
}
"""
PROGRAM = parse(TEXT)
SMALL = "proc main() { ask x; tell (1 / x); }"
NEW = ("tell", ("number", 99))
WIDE = "proc main() { ask x; tell x; }"


def statement(text):
    return parse("proc main() { " + text + " }")[1][0][2][0]


def procedure(text):
    return parse(text)[1][0]


def answers(workshop):
    """All that a workshop tells without being changed."""
    found = [workshop.versions(), workshop.journal()]
    for version in range(1, workshop.versions() + 1):
        try:
            changed = workshop.changes(version)
        except NotEdited:
            changed = None
        found.append((
            workshop.program(version), workshop.paper(version), workshop.origin(version), workshop.witnesses(version),
            workshop.report(version), changed,
        ))
    return found


class WorkshopTest(unittest.TestCase):
    def assert_raises(self, error, function, *arguments, **attributes):
        """The call raises this error with these attributes, and the workshop stays as it is."""
        workshop = function.__self__
        before = answers(workshop)
        with self.subTest(function=function.__name__, arguments=arguments), self.assertRaises(error) as caught:
            function(*arguments)
        self.assertEqual(type(caught.exception), error)
        self.assertEqual(vars(caught.exception), attributes)
        self.assertEqual(answers(workshop), before)

    def started(self, *texts):
        workshop = Workshop()
        for text in texts:
            workshop.begin(text)
        return workshop

    def full(self):
        """60 versions: the first is the program of TEXT, all others are edits of it."""
        workshop = self.started(TEXT)
        for number in range(59):
            workshop.edit(1, ("insert", "main", (number % 5,), ("tell", ("number", number))))
        return workshop


class Versions(WorkshopTest):
    def test_a_new_workshop(self):
        workshop = Workshop()
        self.assertEqual(workshop.versions(), 0)
        self.assertEqual(workshop.journal(), ())

    def test_begin(self):
        workshop = Workshop()
        self.assertEqual(workshop.begin(TEXT), 1)
        self.assertEqual(workshop.begin(SMALL), 2)
        self.assertEqual(workshop.begin(TEXT), 3)
        self.assertEqual(workshop.versions(), 3)
        for version, text in ((1, TEXT), (2, SMALL), (3, TEXT)):
            self.assertEqual(workshop.program(version), parse(text))
            self.assertEqual(workshop.paper(version), solve(parse(text)))
            self.assertEqual(workshop.origin(version), ("begin",))
            self.assertEqual(workshop.witnesses(version), ())
            self.assertEqual(workshop.report(version), claims(parse(text), solve(parse(text))))

    def test_begin_with_a_text_that_is_no_program(self):
        workshop = self.started(SMALL)
        self.assert_raises(SyntaxProblem, workshop.begin, "proc main() { ask 1; }", line=1, column=19)
        self.assert_raises(SyntaxProblem, workshop.begin, "proc main() {\n", line=2, column=1)
        self.assert_raises(ProgramProblem, workshop.begin, "", where="", reason="main")
        self.assert_raises(ProgramProblem, workshop.begin, "proc main() { tell x; }", where="main", reason="unknown")
        self.assertEqual(workshop.begin(TEXT), 2)

    def test_two_workshops_are_apart(self):
        first, second = Workshop(), Workshop()
        first.begin(TEXT)
        first.try_inputs(1, (1, 0))
        self.assertEqual(second.versions(), 0)
        second.begin(TEXT)
        self.assertEqual(second.witnesses(1), ())
        self.assertEqual(len(first.journal()), 2)

    def test_numbers_that_are_no_versions(self):
        for workshop in (Workshop(), self.started(TEXT), self.started(TEXT, SMALL)):
            many = workshop.versions()
            for number in (0, -1, -many, many + 1, many + 2, 60, 61, 1000, -1000):
                for method, arguments in (
                    (workshop.program, ()), (workshop.paper, ()), (workshop.origin, ()), (workshop.witnesses, ()),
                    (workshop.report, ()), (workshop.changes, ()), (workshop.edit, (("delete", "main", (0,)),)),
                    (workshop.edit, (("delete", "nobody", ()),)), (workshop.offer, ("",)), (workshop.try_inputs, ((),)),
                ):
                    if not 1 <= number <= many:
                        self.assert_raises(NoVersion, method, number, *arguments, version=number)

    def test_numbers_that_are_no_versions_in_merge(self):
        workshop = self.started(TEXT)
        self.assert_raises(NoVersion, workshop.merge, 0, 1, version=0)
        self.assert_raises(NoVersion, workshop.merge, 1, 0, version=0)
        self.assert_raises(NoVersion, workshop.merge, 1, 2, version=2)
        self.assert_raises(NoVersion, workshop.merge, 2, 1, version=2)
        self.assert_raises(NoVersion, workshop.merge, 7, -3, version=7)
        self.assert_raises(NoVersion, workshop.merge, -3, 7, version=-3)
        self.assert_raises(NoVersion, workshop.merge, 2, 2, version=2)

    def test_at_most_sixty_versions(self):
        workshop = self.full()
        self.assertEqual(workshop.versions(), 60)
        self.assert_raises(Full, workshop.begin, SMALL)
        self.assert_raises(Full, workshop.edit, 60, ("delete", "main", (3,)))
        self.assert_raises(Full, workshop.edit, 1, ("add", procedure("proc new() { }")))
        self.assert_raises(Full, workshop.merge, 2, 3)
        self.assert_raises(NoVersion, workshop.program, 61, version=61)

    def test_full_comes_after_all_other_errors(self):
        workshop = self.full()
        self.assert_raises(SyntaxProblem, workshop.begin, "proc", line=1, column=5)
        self.assert_raises(ProgramProblem, workshop.begin, "proc main(x) { }", where="", reason="main")
        self.assert_raises(NoVersion, workshop.edit, 61, ("delete", "main", (0,)), version=61)
        self.assert_raises(EditProblem, workshop.edit, 1, ("delete", "main", (9,)), reason="path")
        self.assert_raises(EditProblem, workshop.edit, 1, ("delete", "main", (0,)), reason="result")
        self.assert_raises(NoVersion, workshop.merge, 2, 61, version=61)
        self.assert_raises(NotMergeable, workshop.merge, 2, 2)
        self.assert_raises(NotMergeable, workshop.merge, 1, 2)
        self.assert_raises(Clash, workshop.merge, 2, 7, reason="place")

    def test_a_full_workshop_still_does_the_rest(self):
        workshop = self.full()
        self.assertEqual(workshop.try_inputs(60, (1, 0)), ("failed", "main", "4", "division"))
        self.assertEqual(len(workshop.witnesses(60)), 1)
        self.assertEqual(workshop.offer(60, write_paper(workshop.paper(60))), ())
        self.assertEqual(len(workshop.journal()), 62)


class Edits(WorkshopTest):
    def test_edit(self):
        workshop = self.started(TEXT, SMALL)
        edit = ("insert", "main", (1,), statement("x = 7;"))
        self.assertEqual(workshop.edit(1, edit), 3)
        self.assertEqual(workshop.program(3), apply(PROGRAM, edit))
        self.assertEqual(workshop.origin(3), ("edit", 1, edit))
        self.assertEqual(workshop.program(1), PROGRAM)
        self.assertEqual(workshop.paper(1), solve(PROGRAM))
        self.assertEqual(workshop.paper(3), repair(apply(PROGRAM, edit), carry(PROGRAM, solve(PROGRAM), edit)))
        self.assertEqual(workshop.edit(3, edit), 4)
        self.assertEqual(workshop.origin(4), ("edit", 3, edit))
        self.assertEqual(workshop.program(4), apply(apply(PROGRAM, edit), edit))

    def test_the_paper_is_repaired_and_not_solved_anew(self):
        text = "global g; proc main() { g = 50; tell (100 / g); }"
        workshop = self.started(text)
        workshop.edit(1, ("replace", "main", (0,), statement("g = 1;")))
        # What the old paper allowed behind the statement is still allowed.
        self.assertEqual(dict(row[1:] for row in workshop.paper(2))["1"], (("g", (1, 50, 49)),))
        self.assertEqual(dict(row[1:] for row in solve(workshop.program(2)))["1"], (("g", (1, 1, 0)),))

    def test_the_errors_of_apply(self):
        workshop = self.started(TEXT)
        for edit, reason in (
            (("delete", "nobody", (0,)), "procedure"), (("delete", "main", (6,)), "path"), (("rename", "x", "y"), "name"),
            (("call it", "f", "main"), "name"), (("drop", "f"), "used"), (("delete", "main", (0,)), "result"),
        ):
            self.assert_raises(EditProblem, workshop.edit, 1, edit, reason=reason)

    def test_the_paper_of_an_offer_is_carried(self):
        workshop = self.started(WIDE)
        program = parse(WIDE)
        paper = repair(program, made_paper(program, 4))
        self.assertNotEqual(paper, solve(program))
        self.assertEqual(workshop.offer(1, write_paper(paper)), ())
        edit = ("insert", "main", (2,), NEW)
        workshop.edit(1, edit)
        self.assertEqual(workshop.paper(2), repair(apply(program, edit), carry(program, paper, edit)))
        self.assertNotEqual(workshop.paper(2), solve(apply(program, edit)))


class Offers(WorkshopTest):
    def test_an_accepted_offer(self):
        workshop = self.started(WIDE)
        program = parse(WIDE)
        text = "main in\nmain 0 x=-3..3/3\nmain 1 x=-10000..10000/1\nmain out result=0..5/5\n"
        self.assertEqual(workshop.offer(1, text), ())
        self.assertEqual(workshop.paper(1), (
            ("main", "in", ()), ("main", "0", (("x", (-3, 3, 3)),)), ("main", "1", (("x", (-10000, 10000, 1)),)),
            ("main", "out", (("result", (0, 5, 5)),)),
        ))
        self.assertEqual(workshop.offer(1, write_paper(solve(program))), ())
        self.assertEqual(workshop.paper(1), solve(program))
        self.assertEqual(workshop.journal(), (
            ("begin", WIDE), ("offer", 1, text), ("offer", 1, write_paper(solve(program))),
        ))

    def test_an_offer_that_is_not_accepted(self):
        workshop = self.started(WIDE)
        before = answers(workshop)
        text = "main in never\nmain 0 never\nmain 1 x=0\nmain out result=1\n"
        self.assertEqual(workshop.offer(1, text), (("main", "in", "begin"), ("main", "1", "next")))
        self.assertEqual(answers(workshop), before)
        blank = blank_paper(parse(WIDE))
        self.assertEqual(workshop.offer(1, write_paper(blank)), judge(parse(WIDE), blank))
        self.assertEqual(answers(workshop), before)

    def test_the_offer_of_the_papers_own_text(self):
        workshop = self.started(WIDE)
        self.assertEqual(workshop.offer(1, write_paper(workshop.paper(1))), ())
        self.assertEqual(len(workshop.journal()), 2)

    def test_a_text_that_is_no_paper(self):
        workshop = self.started(WIDE, TEXT)
        good = write_paper(solve(parse(WIDE)))
        self.assert_raises(PaperProblem, workshop.offer, 1, "", line=1)
        self.assert_raises(PaperProblem, workshop.offer, 1, good[:-1], line=4)
        self.assert_raises(PaperProblem, workshop.offer, 1, good + "\n", line=5)
        self.assert_raises(PaperProblem, workshop.offer, 1, good.replace("/1", "/3"), line=3)
        self.assert_raises(PaperProblem, workshop.offer, 2, good, line=1)

    def test_an_offer_changes_its_version_only(self):
        workshop = self.started(WIDE, WIDE)
        text = "main in\nmain 0 x=-3..3/3\nmain 1 x=-10000..10000/1\nmain out result=0..5/5\n"
        workshop.offer(2, text)
        self.assertEqual(workshop.paper(1), solve(parse(WIDE)))
        self.assertNotEqual(workshop.paper(2), solve(parse(WIDE)))

    def test_an_offer_changes_the_report(self):
        text = "global g; proc main() { tell (1 / g); }"
        workshop = self.started("global g; proc main() { } proc f() { tell (1 / g); }")
        self.assertEqual([row[3] for row in workshop.report(1)], ["unreached", "unreached"])
        workshop.offer(1, "main in g=0\nmain out g=0 result=0\nf in never\nf 0 g=5\nf out g=5 result=0\n")
        self.assertEqual([row[3] for row in workshop.report(1)], ["safe", "safe"])
        workshop.offer(1, "main in g=0\nmain out g=0 result=0\nf in never\nf 0 g=0..5/5\nf out g=0..5/5 result=0\n")
        self.assertEqual([row[3] for row in workshop.report(1)], ["open", "safe"])
        self.assertEqual([row[3] for row in self.started(text).report(1)], ["open", "safe"])


class Merges(WorkshopTest):
    FIRST = ("insert", "main", (1,), statement("x = 7;"))
    SECOND = ("replace", "f", (0,), statement("return (20 / p);"))

    def test_merge(self):
        workshop = self.started(TEXT)
        workshop.edit(1, self.FIRST)
        workshop.edit(1, self.SECOND)
        self.assertEqual(workshop.merge(2, 3), 4)
        self.assertEqual(workshop.merge(3, 2), 5)
        self.assertEqual(workshop.program(4), both(PROGRAM, self.FIRST, self.SECOND))
        self.assertEqual(workshop.program(5), workshop.program(4))
        self.assertEqual(workshop.origin(4), ("merge", 2, 3))
        self.assertEqual(workshop.origin(5), ("merge", 3, 2))

    def test_the_paper_of_a_merge(self):
        for first, second in (
            (("insert", "main", (0,), statement("g = 5;")), ("delete", "main", (5,))),
            (("insert", "main", (3,), statement("need 0 < y;")), ("insert", "main", (6,), statement("ask z;"))),
            (("swap", "main", (0,)), ("rename", "x", "b")),
            (("call it", "f", "h"), ("insert", "f", (0,), statement("need 0 < p;"))),
            (("add", procedure("proc new(x) { ask y; }")), ("rename", "y", "z")),
        ):
            workshop = self.started(TEXT)
            workshop.edit(1, first)
            workshop.edit(1, second)
            program = apply(PROGRAM, first)
            offered = repair(program, made_paper(program, 11))
            workshop.offer(2, write_paper(offered))
            other = apply(PROGRAM, second)
            workshop.offer(3, write_paper(repair(other, made_paper(other, 12))))
            self.assertEqual(workshop.merge(2, 3), 4)
            edit = rebase(PROGRAM, second, first)
            wanted = both(PROGRAM, first, second)
            self.assertEqual(workshop.program(4), wanted)
            self.assertEqual(workshop.paper(4), repair(wanted, carry(program, offered, edit)))
            self.assertEqual(judge(wanted, workshop.paper(4)), ())

    def test_a_merge_can_be_edited_and_its_edits_merged(self):
        workshop = self.started(TEXT)
        workshop.edit(1, self.FIRST)
        workshop.edit(1, self.SECOND)
        workshop.merge(2, 3)
        workshop.edit(4, ("insert", "main", (0,), NEW))
        workshop.edit(4, ("rename", "g", "h"))
        self.assertEqual(workshop.merge(6, 5), 7)
        self.assertEqual(workshop.program(7), apply(apply(workshop.program(4), ("insert", "main", (0,), NEW)), ("rename", "g", "h")))

    def test_not_mergeable(self):
        workshop = self.started(TEXT, TEXT)
        workshop.edit(1, self.FIRST)
        workshop.edit(1, self.SECOND)
        workshop.edit(2, self.SECOND)
        workshop.edit(3, self.SECOND)
        workshop.merge(3, 4)
        workshop.merge(3, 4)
        self.assertEqual([workshop.origin(number)[:2] for number in range(1, 9)], [
            ("begin",), ("begin",), ("edit", 1), ("edit", 1), ("edit", 2), ("edit", 3), ("merge", 3), ("merge", 3),
        ])
        mergeable = {(3, 4), (4, 3)}
        for first in range(1, 9):
            for second in range(1, 9):
                if (first, second) not in mergeable:
                    self.assert_raises(NotMergeable, workshop.merge, first, second)

    def test_not_mergeable_though_the_numbers_are_alike(self):
        # An edit of version 2, and a merge of version 2 with another one.
        workshop = self.started(TEXT)
        workshop.edit(1, self.FIRST)
        workshop.edit(1, self.SECOND)
        workshop.merge(2, 3)
        workshop.edit(2, self.SECOND)
        self.assertEqual((workshop.origin(4), workshop.origin(5)[:2]), (("merge", 2, 3), ("edit", 2)))
        self.assert_raises(NotMergeable, workshop.merge, 4, 5)
        self.assert_raises(NotMergeable, workshop.merge, 5, 4)

    def test_two_versions_of_the_same_edit(self):
        workshop = self.started(TEXT)
        for edit in (self.FIRST, self.FIRST, ("rename", "x", "a"), ("rename", "x", "b"), self.SECOND, self.SECOND):
            workshop.edit(1, edit)
        self.assert_raises(NotMergeable, workshop.merge, 2, 2)
        self.assert_raises(Clash, workshop.merge, 2, 3, reason="place")
        self.assert_raises(Clash, workshop.merge, 4, 5, reason="name")
        self.assert_raises(Clash, workshop.merge, 6, 7, reason="place")

    def test_clashes(self):
        workshop = self.started(TEXT)
        for edit in (
            ("rename", "x", "new"), ("insert", "main", (0,), statement("ask new;")), ("delete", "main", (2,)),
            ("replace", "main", (2,), NEW), ("rename", "y", "new"),
        ):
            workshop.edit(1, edit)
        self.assert_raises(Clash, workshop.merge, 2, 3, reason="name")
        self.assert_raises(Clash, workshop.merge, 3, 2, reason="result")
        self.assert_raises(Clash, workshop.merge, 4, 5, reason="place")
        self.assert_raises(Clash, workshop.merge, 2, 6, reason="result")
        self.assertEqual(workshop.merge(2, 4), 7)

    def test_the_merge_in_one_order_only(self):
        workshop = self.started(TEXT)
        workshop.edit(1, ("swap", "main", (0,)))
        workshop.edit(1, ("insert", "main", (0,), NEW))
        self.assert_raises(Clash, workshop.merge, 2, 3, reason="place")
        self.assertEqual(workshop.merge(3, 2), 4)


class Witnesses(WorkshopTest):
    def test_endings(self):
        workshop = self.started(TEXT)
        for inputs, ending in (
            ((), ("starved",)), ((1,), ("starved",)), ((1, 1), ("done",)), ((200, 1), ("failed", "main", "2", "check")),
            ((1, 0), ("failed", "main", "3", "division")), ((0, 1), ("failed", "f", "0", "division")),
            ((-10000, -1), ("done",)), ((-10000, -1, 5), ("done",)),
        ):
            self.assertEqual(workshop.try_inputs(1, inputs), ending)
            self.assertEqual(run(PROGRAM, inputs, 2000)[0], ending)

    def test_other_endings(self):
        workshop = self.started("proc main() { ask x; need x < 5; if x < 3 { call main(); } while x < 4 { } }")
        self.assertEqual(workshop.try_inputs(1, (5,)), ("halted",))
        self.assertEqual(workshop.try_inputs(1, (1,) * 20), ("deep",))
        self.assertEqual(workshop.try_inputs(1, (3,)), ("running",))
        self.assertEqual(workshop.try_inputs(1, (4,)), ("done",))
        self.assertEqual(workshop.witnesses(1), ())
        self.assertEqual(len(workshop.journal()), 1)

    def test_the_limit(self):
        # The failing step is number 2 * n + 3.
        workshop = self.started("proc main() { ask n; while 0 < n { n = (n - 1); } tell (1 / n); }")
        self.assertEqual(workshop.try_inputs(1, (999,)), ("running",))
        self.assertEqual(workshop.try_inputs(1, (998,)), ("failed", "main", "2", "division"))
        workshop = self.started("proc main() { ask n; tell 1; while 0 < n { n = (n - 1); } tell (1 / n); }")
        self.assertEqual(workshop.try_inputs(1, (998,)), ("failed", "main", "3", "division"))
        workshop = self.started("proc main() { ask n; tell 1; tell 1; while 0 < n { n = (n - 1); } tell (1 / n); }")
        self.assertEqual(workshop.try_inputs(1, (998,)), ("running",))

    def test_the_first_inputs_for_each_failure_in_their_order(self):
        workshop = self.started(TEXT)
        for inputs in ((0, 1), (1, 0), (1, 1), (0, 2), (200, 0), (2, 0), (300, 0), (0, 0), (5,)):
            workshop.try_inputs(1, inputs)
        self.assertEqual(workshop.witnesses(1), (
            ("f", "0", "division", (0, 1)), ("main", "3", "division", (1, 0)), ("main", "2", "check", (200, 0)),
        ))
        self.assertEqual(workshop.journal(), (
            ("begin", TEXT), ("try", 1, (0, 1)), ("try", 1, (1, 0)), ("try", 1, (200, 0)),
        ))

    def test_two_kinds_at_one_place(self):
        workshop = self.started("proc main() { ask x; ask y; tell ((x * x) / y); }")
        workshop.try_inputs(1, (1, 0))
        workshop.try_inputs(1, (1000, 0))
        workshop.try_inputs(1, (1000, 1))
        self.assertEqual(workshop.witnesses(1), (
            ("main", "2", "division", (1, 0)), ("main", "2", "overflow", (1000, 0)),
        ))

    def test_one_kind_at_the_same_place_of_two_procedures(self):
        workshop = self.started("proc main() { call f(); } proc f() { ask x; tell (1 / x); call h(); } proc h() { ask x; tell (1 / x); }")
        workshop.try_inputs(1, (1, 0))
        workshop.try_inputs(1, (0,))
        self.assertEqual(workshop.witnesses(1), (("h", "1", "division", (1, 0)), ("f", "1", "division", (0,))))

    def test_versions_have_witnesses_of_their_own(self):
        workshop = self.started(TEXT, TEXT)
        workshop.try_inputs(2, (1, 0))
        self.assertEqual(workshop.witnesses(1), ())
        self.assertEqual(len(workshop.witnesses(2)), 1)

    def test_an_edited_version_tries_them(self):
        workshop = self.started(TEXT)
        for inputs in ((0, 1), (1, 0), (200, 0)):
            workshop.try_inputs(1, inputs)
        workshop.edit(1, ("delete", "main", (2,)))
        # Without the check, the inputs (200, 0) fail where (1, 0) did before.
        self.assertEqual(workshop.witnesses(2), (("f", "0", "division", (0, 1)), ("main", "2", "division", (1, 0))))
        workshop.edit(1, ("insert", "main", (2,), statement("need y != 0;")))
        self.assertEqual(workshop.witnesses(3), (("f", "0", "division", (0, 1)),))
        workshop.edit(1, ("insert", "main", (0,), statement("check 1 < 0;")))
        self.assertEqual(workshop.witnesses(4), (("main", "0", "check", (0, 1)),))
        workshop.edit(1, ("call it", "f", "h"))
        self.assertEqual(workshop.witnesses(5), (
            ("h", "0", "division", (0, 1)), ("main", "3", "division", (1, 0)), ("main", "2", "check", (200, 0)),
        ))
        self.assertEqual(len(workshop.witnesses(1)), 3)
        self.assertEqual(len(workshop.journal()), 8)

    def test_witnesses_that_are_found_later_are_not_taken_over(self):
        workshop = self.started(TEXT)
        workshop.edit(1, ("insert", "main", (0,), NEW))
        workshop.try_inputs(1, (1, 0))
        self.assertEqual(workshop.witnesses(2), ())
        workshop.try_inputs(2, (0, 1))
        self.assertEqual(len(workshop.witnesses(1)), 1)

    def test_a_merged_version_tries_those_of_both(self):
        workshop = self.started(TEXT)
        workshop.try_inputs(1, (200, 5))
        workshop.edit(1, ("insert", "main", (0,), NEW))
        workshop.edit(1, ("insert", "main", (3,), statement("check y < 300;")))
        workshop.try_inputs(3, (1, 0))
        workshop.try_inputs(3, (1, 400))
        workshop.try_inputs(2, (0, 9))
        workshop.try_inputs(2, (2, 0))
        workshop.merge(2, 3)
        workshop.merge(3, 2)
        self.assertEqual(workshop.witnesses(4), (
            ("main", "3", "check", (200, 5)), ("f", "0", "division", (0, 9)), ("main", "5", "division", (2, 0)),
            ("main", "4", "check", (1, 400)),
        ))
        self.assertEqual(workshop.witnesses(5), (
            ("main", "3", "check", (200, 5)), ("main", "5", "division", (1, 0)), ("main", "4", "check", (1, 400)),
            ("f", "0", "division", (0, 9)),
        ))
        # What is tried when a version is made is not recorded.
        self.assertEqual([row[0] for row in workshop.journal()], [
            "begin", "try", "edit", "edit", "try", "try", "try", "try", "merge", "merge",
        ])

    def test_a_witness_that_was_taken_over_is_not_new(self):
        workshop = self.started(TEXT)
        workshop.try_inputs(1, (1, 0))
        workshop.edit(1, ("insert", "main", (0,), NEW))
        self.assertEqual(workshop.try_inputs(2, (2, 0)), ("failed", "main", "4", "division"))
        self.assertEqual(workshop.witnesses(2), (("main", "4", "division", (1, 0)),))
        self.assertEqual(len(workshop.journal()), 3)


class Reports(WorkshopTest):
    def test_broken(self):
        workshop = self.started(TEXT)
        kinds = (
            ("main", "2", "check"), ("main", "3", "division"), ("main", "3", "overflow"), ("main", "5", "overflow"),
            ("f", "0", "division"), ("f", "0", "overflow"),
        )

        def rows(*verdicts):
            return tuple((*kind, verdict) for kind, verdict in zip(kinds, verdicts, strict=True))

        self.assertEqual(workshop.report(1), rows("open", "open", "safe", "open", "open", "safe"))
        workshop.try_inputs(1, (1, 0))
        self.assertEqual(workshop.report(1), rows("open", "broken", "safe", "open", "open", "safe"))
        workshop.try_inputs(1, (0, 1))
        workshop.try_inputs(1, (-10000, -1))
        workshop.try_inputs(1, (100, 1))
        self.assertEqual(workshop.report(1), rows("broken", "broken", "safe", "open", "broken", "safe"))
        workshop.edit(1, ("delete", "main", (2,)))
        self.assertEqual([row[3] for row in workshop.report(2)], ["broken", "safe", "open", "broken", "safe"])
        workshop.try_inputs(1, (-10000, 1))
        self.assertEqual(workshop.report(1), rows("broken", "broken", "safe", "broken", "broken", "safe"))

    def test_a_claim_that_is_safe_is_never_broken(self):
        for number in range(60):
            workshop = self.started(write(lively_program(number)))
            safe = [row[:3] for row in workshop.report(1) if row[3] in ("safe", "unreached")]
            for more in range(12):
                workshop.try_inputs(1, made_inputs(f"report {number} {more}"))
            self.assertEqual([row[:3] for row in workshop.report(1) if row[3] in ("safe", "unreached")], safe)


class Changes(WorkshopTest):
    def test_not_edited(self):
        workshop = self.started(TEXT)
        workshop.edit(1, ("insert", "main", (0,), NEW))
        workshop.edit(1, ("insert", "main", (1,), NEW))
        workshop.merge(2, 3)
        self.assert_raises(NotEdited, workshop.changes, 1)
        self.assert_raises(NotEdited, workshop.changes, 4)
        self.assertEqual(workshop.changes(2), ())
        self.assert_raises(NoVersion, workshop.changes, 5, version=5)

    def assert_changes(self, edit, *wanted, text=TEXT):
        workshop = self.started(text)
        workshop.edit(1, edit)
        self.assertEqual(workshop.changes(2), wanted)
        return workshop

    def test_edits_that_move_places(self):
        self.assert_changes(("insert", "main", (0,), NEW))
        self.assert_changes(("rename", "x", "b"))
        self.assert_changes(("call it", "f", "h"))
        self.assert_changes(("swap", "main", (0,)))

    def test_edits_that_add_places(self):
        self.assert_changes(("insert", "main", (2,), statement("need y != 0;")))
        self.assert_changes(
            ("insert", "main", (0,), statement("tell (1 / 2);")),
            ("main", "0", "division", None, "safe"), ("main", "0", "overflow", None, "safe"),
        )
        self.assert_changes(
            ("add", procedure("proc new(x) { if (x / 2) < 1 { check x < 1; } }")),
            ("new", "0", "division", None, "unreached"), ("new", "0", "overflow", None, "unreached"),
            ("new", "0.0.0", "check", None, "unreached"),
        )

    def test_edits_that_remove_places(self):
        self.assert_changes(("delete", "main", (2,)), ("main", "2", "check", "open", None))
        self.assert_changes(
            ("delete", "main", (3,)),
            ("main", "3", "division", "open", None), ("main", "3", "overflow", "safe", None),
        )
        self.assert_changes(
            ("drop", "last"), ("last", "0", "overflow", "unreached", None), ("last", "0.0.0", "check", "unreached", None),
            text=TEXT + "proc last() { while (g + 1) < 2 { check g < 1; } }",
        )

    def test_a_replaced_statement_is_new_and_the_old_one_is_gone(self):
        self.assert_changes(
            ("replace", "main", (3,), statement("g = (x * y);")),
            ("main", "3", "overflow", None, "open"), ("main", "3", "division", "open", None),
            ("main", "3", "overflow", "safe", None),
        )
        self.assert_changes(
            ("replace", "f", (0,), statement("return 5;")),
            ("f", "0", "division", "open", None), ("f", "0", "overflow", "safe", None),
        )

    def test_rows_of_blocks_and_their_order(self):
        text = """
            proc main() { ask x; if (x / 2) < 1 { check x < 1; while x != 5 { tell (x + 1); } } check x < 2; call f(); }
            proc f() { check 0 < 1; }
        """
        self.assert_changes(
            ("replace", "main", (1,), statement("while (x mod 2) == 0 { check 0 <= 0; ask x; }")),
            ("main", "1", "division", None, "safe"), ("main", "1", "overflow", None, "safe"),
            ("main", "1.0.0", "check", None, "safe"),
            ("main", "1", "division", "safe", None), ("main", "1", "overflow", "safe", None),
            ("main", "1.0.0", "check", "open", None), ("main", "1.0.1.0.0", "overflow", "safe", None),
            text=text,
        )
        self.assert_changes(
            ("delete", "main", (1, 0, 1)), ("main", "1.0.1.0.0", "overflow", "safe", None), text=text,
        )

    def test_verdicts_that_become_other_ones(self):
        text = "global g; proc main() { ask x; tell (1 / x); if g < 1 { tell (1 / (x + 1)); } check g < 1; }"
        # The old state at place 1 was all values, and it stays so: nothing changes there.
        self.assert_changes(("insert", "main", (1,), statement("need 0 < x;")), text=text)
        self.assert_changes(
            ("insert", "main", (2,), statement("ask g;")), ("main", "4", "check", "safe", "open"), text=text,
        )
        self.assert_changes(
            ("insert", "main", (0,), statement("g = 7;")), ("main", "4", "check", "safe", "open"), text=text,
        )
        self.assert_changes(
            ("replace", "main", (0,), statement("x = (1 - 1);")), ("main", "0", "overflow", None, "safe"), text=text,
        )

    def test_unreached_and_reached(self):
        text = "proc main() { return 0; check 1 < 0; tell (1 / 0); }"
        self.assert_changes(
            ("delete", "main", (0,)),
            ("main", "0", "check", "unreached", "open"),
            text=text,
        )
        self.assert_changes(
            ("replace", "main", (0,), NEW), ("main", "1", "check", "unreached", "open"), text=text,
        )
        self.assert_changes(
            ("swap", "main", (0,)), ("main", "0", "check", "unreached", "open"), text=text,
        )

    def test_after_later_tries_and_offers(self):
        text = "proc main() { ask x; tell (1 / x); } proc f() { check 0 < 1; }"
        workshop = self.assert_changes(("insert", "main", (0,), NEW), text=text)
        workshop.try_inputs(2, (0,))
        self.assertEqual(workshop.changes(2), (("main", "2", "division", "open", "broken"),))
        workshop.try_inputs(1, (0,))
        self.assertEqual(workshop.changes(2), ())
        papers = [write_paper(workshop.paper(version)) for version in (1, 2)]
        for version, verdicts in ((1, ("safe", "unreached")), (2, None)):
            changed = papers[version - 1].replace("f in never\nf 0 never\nf out never", "f in never\nf 0\nf out result=0")
            self.assertEqual(workshop.offer(version, changed), ())
            wanted = () if verdicts is None else (("f", "0", "check", *verdicts),)
            self.assertEqual(workshop.changes(2), wanted)
        self.assertEqual(workshop.offer(1, papers[0]), ())
        self.assertEqual(workshop.changes(2), (("f", "0", "check", "unreached", "safe"),))

    def test_a_procedure_with_another_name(self):
        workshop = self.assert_changes(("call it", "f", "a"))
        workshop.try_inputs(1, (0, 1))
        self.assertEqual(workshop.changes(2), (("a", "0", "division", "broken", "open"),))
        workshop.try_inputs(2, (0, 1))
        workshop.try_inputs(2, (1, 0))
        self.assertEqual(workshop.changes(2), (("main", "3", "division", "open", "broken"),))

    def test_against_the_old_version_and_not_the_first(self):
        workshop = self.started(TEXT)
        workshop.edit(1, ("delete", "main", (2,)))
        workshop.edit(2, ("delete", "main", (4,)))
        self.assertEqual(workshop.changes(3), (("main", "4", "overflow", "open", None),))
        workshop.edit(1, ("delete", "main", (5,)))
        self.assertEqual(workshop.changes(4), (("main", "5", "overflow", "open", None),))

    def test_made_edits_word_by_word(self):
        changed = 0
        for number in range(120):
            program = lively_program(number)
            workshop = self.started(write(program))
            for more in range(4):
                edit = made_edit(program, f"{number} changes {more}")
                workshop.try_inputs(1, made_inputs(f"changes {number} {more}"))
                try:
                    version = workshop.edit(1, edit)
                except EditProblem:
                    continue
                workshop.try_inputs(version, made_inputs(f"more {number} {more}"))
                wanted = self.changes_of(program, edit, workshop.report(1), workshop.report(version))
                self.assertEqual(workshop.changes(version), wanted)
                changed += wanted != ()
        self.assertGreater(changed, 60)

    def changes_of(self, program, edit, old, new):
        """Point 43 in a way of its own."""
        found = []
        for row in new:
            before = [other[3] for other in old if moved_place(program, edit, *other[:2]) == row[:2] and other[2] == row[2]]
            before = before[0] if before else None
            if before != row[3]:
                found.append((*row[:3], before, row[3]))
        gone = [(*row, None) for row in old if moved_place(program, edit, *row[:2]) is None]
        return (*found, *gone)


class Journals(WorkshopTest):
    def made(self):
        """A workshop with every kind of call; it is full of errors that leave nothing behind."""
        workshop = self.started(TEXT)
        workshop.try_inputs(1, (1, 0))
        workshop.try_inputs(1, (2, 0))
        workshop.try_inputs(1, (1, 1))
        workshop.edit(1, ("insert", "main", (2,), statement("need y != 0;")))
        workshop.edit(1, ("call it", "f", "h"))
        workshop.offer(2, write_paper(blank_paper(workshop.program(2))))
        workshop.offer(2, write_paper(repair(workshop.program(2), made_paper(workshop.program(2), 2))))
        for method, arguments in (
            (workshop.begin, ("proc",)), (workshop.begin, ("",)), (workshop.edit, (9, ("drop", "f"))),
            (workshop.edit, (1, ("drop", "f"))), (workshop.offer, (1, "")), (workshop.offer, (0, "")),
            (workshop.merge, (1, 2)), (workshop.merge, (2, 2)), (workshop.try_inputs, (8, ())), (workshop.changes, (1,)),
        ):
            self.assertRaises(ClaimError, method, *arguments)
        workshop.merge(2, 3)
        workshop.try_inputs(4, (0, 3))
        workshop.begin(SMALL)
        workshop.try_inputs(5, (0,))
        workshop.edit(5, ("rename", "x", "z"))
        return workshop

    def test_every_kind_of_call(self):
        workshop = self.made()
        offered = write_paper(workshop.paper(2))
        self.assertEqual(workshop.journal(), (
            ("begin", TEXT), ("try", 1, (1, 0)), ("edit", 1, ("insert", "main", (2,), statement("need y != 0;"))),
            ("edit", 1, ("call it", "f", "h")), ("offer", 2, offered), ("merge", 2, 3), ("try", 4, (0, 3)),
            ("begin", SMALL), ("try", 5, (0,)), ("edit", 5, ("rename", "x", "z")),
        ))

    def test_replay(self):
        workshop = self.made()
        other = replay(workshop.journal())
        self.assertIsInstance(other, Workshop)
        self.assertEqual(answers(other), answers(workshop))
        # They go on alike, and apart from one another.
        for method, arguments in (
            ("try_inputs", (4, (500, 1))), ("edit", (4, ("delete", "main", (0,)))), ("edit", (4, ("delete", "main", (3,)))),
            ("merge", (3, 2)), ("begin", (WIDE,)), ("merge", (2, 3)), ("edit", (6, ("rename", "z", "x"))),
        ):
            results = []
            for one in (workshop, other):
                try:
                    results.append(getattr(one, method)(*arguments))
                except ClaimError as error:
                    results.append((type(error), vars(error)))
            self.assertEqual(results[0], results[1])
        self.assertEqual(answers(other), answers(workshop))
        other.begin(SMALL)
        self.assertEqual(other.versions(), workshop.versions() + 1)

    def test_replay_of_each_beginning(self):
        journal = self.made().journal()
        for many in range(len(journal) + 1):
            self.assertEqual(replay(journal[:many]).journal(), journal[:many])
        self.assertEqual(replay(()).versions(), 0)

    def test_replay_of_tries_that_find_nothing_new(self):
        journal = (("begin", SMALL), ("try", 1, (5,)), ("try", 1, (0,)), ("try", 1, (0, 0)))
        self.assertEqual(replay(journal).journal(), (("begin", SMALL), ("try", 1, (0,))))

    def assert_bad(self, *entries):
        start = (
            ("begin", TEXT), ("edit", 1, ("insert", "main", (0,), NEW)), ("edit", 1, ("delete", "main", (2,))),
            ("edit", 1, ("replace", "main", (2,), NEW)),
        )
        for entry in entries:
            for behind in ((), (("begin", SMALL),), (("begin", ""), entry)):
                with self.subTest(entry=entry), self.assertRaises(JournalProblem) as caught:
                    replay((*start, entry, *behind))
                self.assertEqual(caught.exception.position, 4)
                self.assertEqual(vars(caught.exception), {"position": 4})

    def test_each_kind_of_bad_entry(self):
        self.assert_bad(("begin", "proc"), ("begin", ""), ("begin", "proc main() { tell x; }"))
        self.assert_bad(
            ("edit", 5, ("delete", "main", (2,))), ("edit", 0, ("delete", "main", (2,))), ("edit", 1, ("delete", "main", (8,))),
            ("edit", 1, ("drop", "f")), ("edit", 1, ("drop", "main")), ("edit", 1, ("rename", "x", "if")),
            ("edit", 1, ("delete", "main", (0,))),
        )
        text = write_paper(solve(PROGRAM))
        self.assert_bad(
            ("offer", 5, text), ("offer", 2, text), ("offer", 1, ""), ("offer", 1, text + "\n"), ("offer", -1, text),
            ("offer", 1, write_paper(blank_paper(PROGRAM))),
        )
        self.assert_bad(("merge", 1, 2), ("merge", 2, 2), ("merge", 3, 4), ("merge", 2, 5), ("merge", 9, 2))
        self.assert_bad(("try", 5, ()), ("try", 0, (1,)))

    def test_the_first_entry(self):
        for entry in (("begin", "x"), ("try", 1, ()), ("edit", 1, ("rename", "x", "y")), ("offer", 1, ""), ("merge", 1, 2)):
            with self.assertRaises(JournalProblem) as caught:
                replay((entry, ("begin", SMALL)))
            self.assertEqual(caught.exception.position, 0)

    def test_a_journal_with_too_many_versions(self):
        journal = (("begin", SMALL),) * 60
        self.assertEqual(replay(journal).versions(), 60)
        with self.assertRaises(JournalProblem) as caught:
            replay((*journal, ("try", 60, (0,)), ("begin", SMALL), ("begin", SMALL)))
        self.assertEqual(caught.exception.position, 61)

    def test_made_workshops(self):
        for number in range(25):
            workshop = self.drawn(random.Random(f"workshop {number}"))
            other = replay(workshop.journal())
            self.assertEqual(answers(other), answers(workshop))
            for version in range(1, workshop.versions() + 1):
                program, paper = workshop.program(version), workshop.paper(version)
                self.assertEqual(judge(program, paper), ())
                for name, place, kind, inputs in workshop.witnesses(version):
                    self.assertEqual(run(program, inputs, 2000)[0], ("failed", name, place, kind))
                    self.assertIn((name, place, kind, "open"), claims(program, paper))

    def drawn(self, chance):
        workshop = Workshop()
        workshop.begin(write(lively_program(chance.randrange(1000))))
        for step in range(30):
            version = chance.randint(1, workshop.versions())
            call = chance.choice(("try", "try", "edit", "edit", "edit", "merge", "merge", "offer", "begin"))
            try:
                if call == "try":
                    workshop.try_inputs(version, made_inputs(chance.random()))
                elif call == "edit":
                    workshop.edit(chance.choice((1, version)), made_edit(workshop.program(version), chance.random()))
                elif call == "merge":
                    workshop.merge(version, chance.randint(1, workshop.versions()))
                elif call == "offer":
                    program = workshop.program(version)
                    workshop.offer(version, write_paper(repair(program, made_paper(program, step))))
                elif step < 5:
                    workshop.begin(write(lively_program(chance.randrange(1000))))
            except ClaimError:
                continue
        return workshop


if __name__ == "__main__":
    unittest.main()
