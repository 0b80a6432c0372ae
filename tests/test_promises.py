"""Promises over the whole program: points 2, 27 and 45."""

import random
import unittest

from carryclaim.carrying import carry, rejudge, touched
from carryclaim.edits import apply, moved_place, undo
from carryclaim.errors import EditProblem
from carryclaim.judging import claims, judge, ways
from carryclaim.machine import run, trace
from carryclaim.merging import both, rebase
from carryclaim.papers import blank_paper, read_paper, state_at, write_paper
from carryclaim.parser import parse
from carryclaim.places import places
from carryclaim.programs import variables
from carryclaim.ranges import has
from carryclaim.solving import marks, repair, solve
from carryclaim.workshop import Workshop, replay
from tests.made import lively_program, made_edit, made_paper, made_program

TEXTS = (
    # The example of the document.
    "global g; proc main() { ask x; need 0 < x; while g < 10 { g = (g + 2); } check g == 10; tell (100 / x); }",
    # Conditions whose parts can fail, and which narrow one another.
    "proc main() { ask x; ask y; if [x == 0 or (100 / x) < y] { tell (1 / x); } else { check x != 0; tell (y / x); } }",
    "proc main() { ask x; ask y; need [x < y and not [x < -5 or 5 < y]]; check [-5 <= x and y <= 5]; tell (9 / (y - x)); }",
    "proc main() { ask x; ask y; while [not x == y and x < 50] { x = (x + 1); check x <= 50; } tell (1 / (x - y)); }",
    "proc main() { ask x; if x < x { tell (1 / 0); } check x <= x; check x == x; if x != x { tell (1 / 0); } }",
    # Steps of ranges.
    "proc main() { ask x; x = (x mod 7); x = (x * 6); while x < 500 { x = (x + 6); check (x mod 6) == 0; } tell (1 / (x - 3)); }",
    "proc main() { while x < 99 { x = (x + 3); } check x == 99; tell (10 / (x mod 2)); tell (1 / (x - 100)); }",
    "proc main() { ask x; y = (0 - x); tell (x - y); z = (x / 3); tell (z * 3); tell (x / z); tell (x mod (z - 1)); }",
    # Calls: results, globals, recursion, and a name that is also that of the result.
    """global result; global n;
    proc f(x) { if x <= 0 { return 0; } n = (n + 1); call f((x - 1)) to y; return (y + x); }
    proc main() { ask k; need k < 15; call f(k) to result; check 0 <= result; check n < 11; tell (100 / n); }""",
    """global a; global b;
    proc swap() { t = a; a = b; b = t; }
    proc main() { ask a; need [0 < a and a < 100]; call swap(); check a == 0; call swap(); tell (10 / a); call swap() to b;
        check b == 0; tell (5 / a); }""",
    """proc even(n) { if n == 0 { return 1; } call odd((n - 1)) to r; return r; }
    proc odd(n) { if n == 0 { return 0; } call even((n - 1)) to r; return r; }
    proc main() { ask n; call even(n) to e; if e == 1 { check (n mod 2) == 0; } tell (1 / (2 - e)); }""",
    "global g; proc main() { g = (g + 1); if g < 9 { call main() to x; check x == 0; } return (g / x); }",
    # Ends of the values.
    "proc main() { x = 10000; while 0 < x { x = (x - 7); } tell (x - 9994); check x == -3; tell (10000 / x); }",
    "proc main() { ask x; ask y; check [x != y or x < 1]; while x < y { x = (x + 2); } check x == y; }",
    "proc main() { ask x; ask y; z = (x * y); if (x + y) < 0 { tell (x - y); } else { tell (y - x); } return (z + 1); }",
)


def made_inputs(number):
    chance = random.Random(f"inputs {number}")
    span = chance.choice(((-3, 3), (-12, 12), (-100, 100), (-10000, 10000)))
    return tuple(chance.choice((chance.randint(*span), 0, 1)) for _ in range(chance.randint(0, 30)))


ROWS = ((), (0,) * 10, (1,) * 10, (-1,) * 10, (10000,) * 10, (-10000,) * 10, (5, 7, 9, 11), (0, 1, 2, 3), *map(made_inputs, range(30)))


class EveryRun(unittest.TestCase):
    def assert_promised(self, program, paper, rows):
        self.assertEqual(judge(program, paper), ())
        states = {row[:2]: row[2] for row in paper}
        verdicts = {row[:3]: row[3] for row in claims(program, paper)}
        for inputs in rows:
            for name, place, values in trace(program, inputs, 600):
                state = states[name, place]
                self.assertIsNotNone(state)
                self.assertEqual(tuple(word for word, _ in state), variables(program, name))
                for (_, span), value in zip(state, values, strict=True):
                    self.assertTrue(has(span, value))
            ending = run(program, inputs, 600)[0]
            if ending[0] == "failed":
                self.assertEqual(verdicts[ending[1:]], "open")

    def test_papers_of_solve(self):
        for text in TEXTS:
            with self.subTest(text):
                program = parse(text)
                self.assert_promised(program, solve(program), ROWS)

    def test_other_accepted_papers(self):
        for number, text in enumerate(TEXTS):
            with self.subTest(text):
                program = parse(text)
                for more in range(4):
                    paper = repair(program, made_paper(program, 100 * more + number))
                    self.assert_promised(program, paper, ROWS[:20])

    def test_made_programs(self):
        for number in range(150):
            for program in (made_program(number), lively_program(number)):
                rows = [made_inputs(f"{number} {more}") for more in range(6)]
                self.assert_promised(program, solve(program), rows)
                self.assert_promised(program, repair(program, made_paper(program, number)), rows[:2])

    def test_runs_that_fail_are_among_them(self):
        endings = set()
        for text in TEXTS:
            for inputs in ROWS:
                ending = run(parse(text), inputs, 600)[0]
                endings.add(ending[0] if ending[0] != "failed" else ending[3])
        self.assertEqual(endings, {
            "division", "overflow", "check", "done", "halted", "starved", "deep", "running",
        })

    def test_a_paper_that_is_not_accepted_promises_nothing(self):
        program = parse("proc main() { ask x; tell (1 / x); }")
        paper = blank_paper(program)
        self.assertNotEqual(judge(program, paper), ())
        self.assertEqual({row[3] for row in claims(program, paper)}, {"unreached"})
        self.assertEqual(run(program, (0,), 9)[0], ("failed", "main", "1", "division"))


class OnlyTuples(unittest.TestCase):
    """Point 2: all collections that are returned are tuples, and so nothing that is passed can be changed."""

    def assert_plain(self, found):
        if found is not None and not isinstance(found, (int, str)):
            self.assertIs(type(found), tuple)
            for part in found:
                self.assert_plain(part)

    def test_papers_and_the_judge(self):
        for number in range(60):
            program = lively_program(number)
            for paper in (solve(program), blank_paper(program), made_paper(program, number)):
                for found in (
                    repair(program, paper), judge(program, paper), claims(program, paper), marks(program),
                    read_paper(program, write_paper(paper)), state_at(paper, "main", "in"),
                ):
                    self.assert_plain(found)
                for name, place, _ in paper:
                    self.assert_plain(ways(program, paper, name, place))

    def test_edits(self):
        for number in range(60):
            program = lively_program(number)
            paper = solve(program)
            add = ("add", parse("proc added(x) { tell x; }")[1][0])
            for edit in (made_edit(program, f"tuples {number}"), add):
                try:
                    apply(program, edit)
                except EditProblem:
                    continue
                for found in (
                    apply(program, edit), carry(program, paper, edit), touched(program, edit), rejudge(program, paper, edit),
                    [moved_place(program, edit, "main", place) for place in places(program, "main")][-1],
                ):
                    self.assert_plain(found)
                if edit[0] != "drop":
                    self.assert_plain(undo(program, edit))
                if edit[0] != "add":
                    self.assert_plain(rebase(program, add, edit))
                    self.assert_plain(both(program, edit, add))

    def test_the_workshop(self):
        workshop = Workshop()
        workshop.begin(TEXTS[0])
        workshop.begin("proc main() { ask x; tell (1 / x); }")
        self.assert_plain(workshop.try_inputs(2, (0,)))
        workshop.edit(2, ("insert", "main", (0,), ("tell", ("number", 1))))
        self.assert_plain(workshop.offer(1, write_paper(blank_paper(parse(TEXTS[0])))))
        for one in (workshop, replay(workshop.journal())):
            self.assert_plain(one.journal())
            self.assert_plain(one.changes(3))
            for version in range(1, 4):
                for method in (one.program, one.paper, one.origin, one.witnesses, one.report):
                    self.assert_plain(method(version))
            one.try_inputs(1, (5,))

    def test_what_a_workshop_returned_stays(self):
        workshop = Workshop()
        workshop.begin("proc main() { ask x; tell (1 / x); }")
        before = (workshop.journal(), workshop.witnesses(1), workshop.report(1))
        workshop.try_inputs(1, (0,))
        self.assertEqual([len(part) for part in before], [1, 0, 2])
        self.assertEqual((len(workshop.journal()), len(workshop.witnesses(1))), (2, 1))


class Example(unittest.TestCase):
    """Point 45, in a workshop."""

    CLAIMS = (
        ("main", "2.0.0", "overflow", "safe"), ("main", "3", "check", "safe"), ("main", "4", "division", "safe"),
        ("main", "4", "overflow", "safe"),
    )

    def test_the_example(self):
        workshop = Workshop()
        self.assertEqual(workshop.begin(TEXTS[0]), 1)
        self.assertEqual(places(workshop.program(1), "main"), ("in", "0", "1", "2", "2.0.0", "3", "4", "out"))
        paper = workshop.paper(1)
        self.assertEqual(dict(state_at(paper, "main", "1"))["x"], (-10000, 10000, 1))
        self.assertEqual(dict(state_at(paper, "main", "2")), {"g": (0, 10, 2), "x": (1, 10000, 1)})
        self.assertEqual(dict(state_at(paper, "main", "3"))["g"], (10, 10, 0))
        self.assertEqual(workshop.report(1), self.CLAIMS)
        for inputs in ROWS:
            self.assertNotEqual(workshop.try_inputs(1, inputs)[0], "failed")
        self.assertEqual(workshop.witnesses(1), ())

    def test_the_example_across_edits(self):
        workshop = Workshop()
        workshop.begin(TEXTS[0])
        workshop.edit(1, ("delete", "main", (1,)))
        workshop.edit(1, ("rename", "g", "h"))
        self.assertEqual(workshop.changes(2), (("main", "3", "division", "safe", "open"),))
        self.assertEqual(workshop.changes(3), ())
        self.assertEqual(workshop.try_inputs(2, (0,)), ("failed", "main", "3", "division"))
        self.assertEqual(workshop.changes(2), (("main", "3", "division", "safe", "broken"),))
        self.assertEqual(workshop.merge(3, 2), 4)
        self.assertEqual(workshop.witnesses(4), (("main", "3", "division", (0,)),))
        self.assertEqual(workshop.report(4), (
            ("main", "1.0.0", "overflow", "safe"), ("main", "2", "check", "safe"), ("main", "3", "division", "broken"),
            ("main", "3", "overflow", "safe"),
        ))


if __name__ == "__main__":
    unittest.main()
