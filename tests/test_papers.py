"""Points 23, 28 and 29: papers, the blank paper, and the text of a paper."""

import itertools
import unittest

from carryclaim.errors import PaperProblem
from carryclaim.papers import blank_paper, read_paper, state_at, write_paper
from carryclaim.parser import parse
from carryclaim.places import places
from carryclaim.programs import variables
from carryclaim.solving import solve
from tests.made import made_paper, made_program

ZERO = (0, 0, 0)

PROGRAM = parse("""\
global g;
global result;
proc main() {
    ask x;
    while g < 3 {
        call f(x, 2) to a;
    }
}
proc f(q, b) {
    return b;
}
proc none() {
}
""")
PLACES = (
    ("main", "in"), ("main", "0"), ("main", "1"), ("main", "1.0.0"), ("main", "out"),
    ("f", "in"), ("f", "0"), ("f", "out"), ("none", "in"), ("none", "out"),
)
PAPER = (
    ("main", "in", (("g", ZERO), ("result", (-1, 1, 2)))),
    ("main", "0", (("g", ZERO), ("result", ZERO), ("a", (5, 5, 0)), ("x", (-10000, 10000, 1)))),
    ("main", "1", None),
    ("main", "1.0.0", (("g", (-6, -2, 4)), ("result", (-3, -3, 0)), ("a", (0, 9, 9)), ("x", (-10000, 10000, 20000)))),
    ("main", "out", (("g", ZERO), ("result", (1, 1, 0)), ("result", (2, 4, 1)))),
    ("f", "in", (("g", ZERO), ("result", ZERO), ("q", (1, 2, 1)), ("b", (3, 3, 0)))),
    ("f", "0", (("g", ZERO), ("result", ZERO), ("b", (10000, 10000, 0)), ("q", (-10000, -10000, 0)))),
    ("f", "out", None),
    ("none", "in", (("g", ZERO), ("result", ZERO))),
    ("none", "out", (("g", ZERO), ("result", ZERO), ("result", ZERO))),
)
TEXT = """\
main in g=0 result=-1..1/2
main 0 g=0 result=0 a=5 x=-10000..10000/1
main 1 never
main 1.0.0 g=-6..-2/4 result=-3 a=0..9/9 x=-10000..10000/20000
main out g=0 result=1 result=2..4/1
f in g=0 result=0 q=1..2/1 b=3
f 0 g=0 result=0 b=10000 q=-10000
f out never
none in g=0 result=0
none out g=0 result=0 result=0
"""


class StateAt(unittest.TestCase):
    def test_every_place(self):
        for name, place, state in PAPER:
            self.assertEqual(state_at(PAPER, name, place), state)

    def test_the_same_place_of_several_procedures(self):
        program = parse("proc f() { ask x; } proc main() { ask y; }")
        paper = solve(program)
        self.assertIsNone(state_at(paper, "f", "in"))
        self.assertIsNone(state_at(paper, "f", "0"))
        self.assertEqual(state_at(paper, "main", "in"), ())
        self.assertEqual(state_at(paper, "main", "0"), (("y", ZERO),))
        self.assertEqual(state_at(paper, "main", "out"), (("result", ZERO),))


class BlankPaper(unittest.TestCase):
    def test_with_globals_and_several_procedures(self):
        wanted = tuple((name, place, None) for name, place in PLACES)
        wanted = (("main", "in", (("g", ZERO), ("result", ZERO))), *wanted[1:])
        self.assertEqual(blank_paper(PROGRAM), wanted)

    def test_without_globals(self):
        self.assertEqual(
            blank_paper(parse("proc main() { ask x; }")),
            (("main", "in", ()), ("main", "0", None), ("main", "out", None)),
        )

    def test_an_empty_main_behind_another_procedure_with_parameters(self):
        program = parse("global b; global a; proc f(y, x) { } proc main() { }")
        self.assertEqual(blank_paper(program), (
            ("f", "in", None), ("f", "out", None), ("main", "in", (("b", ZERO), ("a", ZERO))), ("main", "out", None),
        ))

    def test_the_places_of_made_programs(self):
        for number in range(100):
            program = made_program(number)
            paper = blank_paper(program)
            wanted = [(name, place) for name, _, _ in program[1] for place in places(program, name)]
            self.assertEqual([row[:2] for row in paper], wanted)
            self.assertEqual([row[:2] for row in paper if row[2] is not None], [("main", "in")])


class WritePaper(unittest.TestCase):
    def test_a_paper_of_every_kind_of_state(self):
        self.assertEqual(write_paper(PAPER), TEXT)

    def test_states_without_variables(self):
        program = parse("proc main() { tell 1; }")
        paper = (("main", "in", ()), ("main", "0", ()), ("main", "out", (("result", (-7, -7, 0)),)))
        self.assertEqual(write_paper(paper), "main in\nmain 0\nmain out result=-7\n")
        self.assertEqual(read_paper(program, write_paper(paper)), paper)

    def test_a_blank_paper(self):
        self.assertEqual(write_paper(blank_paper(parse("proc main() { }"))), "main in\nmain out never\n")

    def test_the_example_of_the_document(self):
        program = parse(
            "global g; proc main() { ask x; need 0 < x; while g < 10 { g = (g + 2); } check g == 10; tell (100 / x); }"
        )
        self.assertEqual(write_paper(solve(program)), """\
main in g=0
main 0 g=0 x=0
main 1 g=0 x=-10000..10000/1
main 2 g=0..10/2 x=1..10000/1
main 2.0.0 g=0..8/2 x=1..10000/1
main 3 g=10 x=1..10000/1
main 4 g=10 x=1..10000/1
main out g=10 result=0
""")


class ReadPaper(unittest.TestCase):
    def assert_wrong(self, text, line, program=PROGRAM):
        with self.subTest(text=text), self.assertRaises(PaperProblem) as caught:
            read_paper(program, text)
        self.assertEqual(caught.exception.line, line)

    def test_the_paper_of_a_text(self):
        self.assertEqual(read_paper(PROGRAM, TEXT), PAPER)

    def test_what_was_written_is_read(self):
        for number in range(150):
            program = made_program(number)
            for paper in (solve(program), blank_paper(program), made_paper(program, number)):
                self.assertEqual(read_paper(program, write_paper(paper)), paper)

    def test_names_that_look_like_places_and_like_never(self):
        program = parse("global in; global never; proc out(never1) { out = in; } proc main() { ask never2; }")
        paper = (
            ("out", "in", (("in", ZERO), ("never", (1, 3, 2)), ("never1", ZERO))),
            ("out", "0", (("in", ZERO), ("never", ZERO), ("never1", ZERO), ("out", ZERO))),
            ("out", "out", None),
            ("main", "in", None),
            ("main", "0", (("in", ZERO), ("never", ZERO), ("never2", ZERO))),
            ("main", "out", (("in", ZERO), ("never", ZERO), ("result", ZERO))),
        )
        self.assertEqual(read_paper(program, write_paper(paper)), paper)

    def test_a_procedure_called_result(self):
        program = parse("global result; proc main() { } proc result(x) { }")
        paper = (
            ("main", "in", None),
            ("main", "out", (("result", (1, 2, 1)), ("result", (3, 4, 1)))),
            ("result", "in", (("result", ZERO), ("x", ZERO))),
            ("result", "out", (("result", (-2, -1, 1)), ("result", (5, 5, 0)))),
        )
        text = "main in never\nmain out result=1..2/1 result=3..4/1\nresult in result=0 x=0\n" \
            "result out result=-2..-1/1 result=5\n"
        self.assertEqual(write_paper(paper), text)
        self.assertEqual(read_paper(program, text), paper)
        self.assert_wrong(text.replace("result=3..4/1", ""), 2, program)
        self.assert_wrong(text.replace(" result=3..4/1", ""), 2, program)
        self.assert_wrong(text.replace(" result=5", " result=5 result=5"), 4, program)

    def test_lines_that_are_not_of_the_form(self):
        lines = TEXT.splitlines()
        wrong_lines = {
            1: (
                "", " ", "main", "main ", "main in ", "main in never ", " main in never", "main  in never",
                "main in  never", "main in nevers", "main in never never", "main in never g=0 result=0",
                "main in g=0 result=0 never", "Main in never", "main In never", "main in Never", "f in never",
                "main out never", "main 0 never", "none in g=0 result=0", "main in g=0", "main in result=0",
                "main in result=0 g=0", "main in g=0 result=0 result=0", "main in g=0 g=0 result=0",
                "main in g=0 result=0 a=0", "main in g=0 result=0 a=0 x=0", "main in g=0  result=0",
                "main in g=0 result=0 ", " main in g=0 result=0", "main in  g=0 result=0", "main  in g=0 result=0",
                "main in g =0 result=0", "main in g= 0 result=0", "main in g=0, result=0", "main in g==0 result=0",
                "main in g:0 result=0", "main in gg=0 result=0", "main in h=0 result=0", "main in g= result=0",
                "main in g result=0", "main in =0 result=0", "main in g=0 result=0 never", "main ing=0 result=0",
                "mainin g=0 result=0", "main in g=0result=0", "main.in g=0 result=0", "main in\ng=0 result=0",
                "xmain in g=0 result=0", "main in x g=0 result=0", "main in g=0 Result=0", "g=0 result=0",
            ),
            5: (
                "main out", "main out g=0 result=1", "main out g=0 result=1 result=2 result=3",
                "main out result=1 g=0 result=2", "main out g=0 result=1 out=2", "main out g=0 result=1 a=1 x=1",
                "main out g=0 result=1 a=1", "f out g=0 result=1 result=2", "main in g=0 result=1 result=2",
            ),
            6: (
                "f in g=0 result=0 b=3 q=1..2/1", "f in g=0 result=0 q=0", "f in g=0 result=0 b=0",
                "f in g=0 result=0", "f in g=0 result=0 q=0 b=0 x=0", "f in q=0 b=0 g=0 result=0",
                "main in g=0 result=0 q=0 b=0", "f 0 g=0 result=0 q=0 b=0", "none in g=0 result=0 q=0 b=0",
            ),
            7: (
                "f 0 g=0 result=0 q=0 b=0", "f 0 result=0 g=0 b=0 q=0", "f 00 g=0 result=0 b=0 q=0",
                "f 0.0 g=0 result=0 b=0 q=0", "f 1 g=0 result=0 b=0 q=0", "f 0 g=0 result=0 b=0",
            ),
            10: (
                "", "none out", "none out g=0 result=0", "none out never ", "none out never never", "none in never",
                "none  out never", "none out g=0 result=0 result=0 ", "none out g=0 result=0 result=0 result=0",
            ),
        }
        for number, texts in wrong_lines.items():
            for line in texts:
                changed = [*lines[:number - 1], line, *lines[number:]]
                self.assert_wrong("\n".join(changed) + "\n", number)

    def test_ranges_that_are_none(self):
        program = parse("global g; proc main() { }")
        head, tail = "main in g=", "\nmain out never\n"
        for low, high, step in itertools.product((-10000, -3, 0, 7, 10000), (-10000, 0, 8, 10000), range(-1, 12)):
            text = f"{head}{low}..{high}/{step}{tail}"
            if low < high and step > 0 and (high - low) % step == 0:
                span = state_at(read_paper(program, text), "main", "in")[0][1]
                self.assertEqual(span, (low, high, step))
            else:
                self.assert_wrong(text, 1, program)
        wrong = (
            "", " ", "x", "-", "+5", "-0", "00", "01", "-01", "007", "0x1", "1_0", "1e1", "1.0", "1.", ".1", "--1", "- 1",
            "1 ", "5/0", "5/1", "/", "..", "../", "../1", "1..", "1../", "1../1", "..2/1", "1..2", "1..2/", "1..2/1/1",
            "1..2/1..", "1...2/1", "1..2//1", "1.2/1", "1..2/-1", "2..1/-1", "1..2/+1", "1..2/01", "01..2/1", "1..02/1",
            "1..+2/1", "+1..2/1", "-0..2/1", "-2..-0/1", "1..2/1 ", "1.. 2/1", "1 ..2/1", "1..2 /1", "1..2/ 1",
            "5..5/0", "5..5/1", "0..0/0", "1..2/0", "-0..0/0", "10001", "-10001", "0..10001/1", "-10001..0/1", "99999",
            "-10001..10001/1", "10000..10001/1", "0..20000/20000", "100000", "0..100000/1", "0..10/100000", "0..10/20",
            "[0]", "(0,0,0)", "0,0,0", "None", "never", "9" * 5000, "-" + "9" * 5000, "0..10/" + "1" * 5000,
            "0" * 5000, "0.." + "9" * 5000 + "/1", "0..10/5..", "0;", "0..4/3", "1..2/1a", "a1..2/1",
        )
        for text in wrong:
            self.assert_wrong(head + text + tail, 1, program)

    def test_ranges_that_are_some(self):
        program = parse("global g; proc main() { }")
        spans = (
            ZERO, (-1, -1, 0), (10000, 10000, 0), (-10000, -10000, 0), (-10000, 10000, 1), (-10000, 10000, 20000),
            (-10000, 10000, 10000), (0, 1, 1), (-1, 0, 1), (9999, 10000, 1), (-7, 7, 14), (-7, 7, 7), (-7, 7, 2),
        )
        for span in spans:
            low, high, step = span
            text = f"{low}..{high}/{step}" if step else str(low)
            found = read_paper(program, f"main in g={text}\nmain out g=0 result={text}\n")
            self.assertEqual(found, (
                ("main", "in", (("g", span),)), ("main", "out", (("g", ZERO), ("result", span))),
            ))

    def test_too_few_lines(self):
        lines = TEXT.splitlines(keepends=True)
        for many in range(len(lines)):
            self.assert_wrong("".join(lines[:many]), many + 1)
        self.assert_wrong("", 1)

    def test_a_last_line_without_a_newline_is_missing(self):
        lines = TEXT.splitlines(keepends=True)
        for many in range(1, len(lines) + 1):
            self.assert_wrong("".join(lines[:many])[:-1], many)
        for many in range(1, len(lines)):
            self.assert_wrong("".join(lines[:many]) + "x", many + 1)

    def test_too_many_lines_and_more_text(self):
        last = TEXT.splitlines(keepends=True)[-1]
        for more in ("\n", "\n\n", " ", "  ", "x", "never", last, last[:-1], TEXT, " \n", "main in never\n", "-"):
            self.assert_wrong(TEXT + more, 11)

    def test_empty_lines_in_front_and_between(self):
        lines = TEXT.splitlines(keepends=True)
        for at in range(len(lines)):
            self.assert_wrong("".join([*lines[:at], "\n", *lines[at:]]), at + 1)
        self.assert_wrong("\n", 1)
        self.assert_wrong("\n\n\n", 1)

    def test_lines_in_another_order(self):
        lines = TEXT.splitlines(keepends=True)
        for at in range(len(lines) - 1):
            self.assert_wrong("".join([*lines[:at], lines[at + 1], lines[at], *lines[at + 2:]]), at + 1)

    def test_the_first_wrong_line_counts(self):
        lines = TEXT.splitlines(keepends=True)
        self.assert_wrong("".join([*lines[:2], "x\n", lines[3], "x\n", *lines[5:]]), 3)
        self.assert_wrong("".join([*lines[:2], "x\n", lines[3]]), 3)
        self.assert_wrong("".join([*lines[:2], "x\n", *lines[3:], "x\n"]), 3)
        self.assert_wrong("".join([*lines[:9], "x\n", "x\n"]), 10)

    def test_each_character_left_out_or_doubled(self):
        lines = TEXT.splitlines(keepends=True)
        for number, line in enumerate(lines):
            for at in range(len(line)):
                for changed in (line[:at] + line[at + 1:], line[:at + 1] + line[at:], line[:at] + " " + line[at:]):
                    self.assert_read_or_wrong("".join([*lines[:number], changed, *lines[number + 1:]]))

    def assert_read_or_wrong(self, text):
        """A text is either the very text of a paper, or it is none."""
        try:
            paper = read_paper(PROGRAM, text)
        except PaperProblem:
            return
        self.assertEqual(write_paper(paper), text)
        for name, place, state in paper:
            for _, (low, high, step) in state or ():
                self.assertTrue(-10000 <= low <= high <= 10000)
                self.assertTrue(step == 0 if low == high else step > 0 and (high - low) % step == 0)

    def test_a_paper_of_another_program(self):
        other = parse("global g; proc main() { ask x; }")
        self.assert_wrong(write_paper(solve(other)), 1)
        self.assert_wrong(TEXT, 1, other)

    def test_states_have_the_variables_of_their_procedure(self):
        for number in range(60):
            program = made_program(number)
            for name, place, state in solve(program):
                if state is not None and place not in ("in", "out"):
                    self.assertEqual(tuple(row[0] for row in state), variables(program, name))


if __name__ == "__main__":
    unittest.main()
