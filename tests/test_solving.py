"""Point 28: marks, repair and solve."""

import unittest

from carryclaim.judging import judge, ways
from carryclaim.papers import blank_paper, state_at
from carryclaim.parser import parse
from carryclaim.ranges import widen
from carryclaim.solving import marks, repair, solve
from carryclaim.states import state_join, state_within
from tests.made import made_paper, made_program

ZERO = (0, 0, 0)
ENDS = (-10000, 10000)
EXAMPLE = parse("""\
global g;
proc main() {
    ask x;
    need 0 < x;
    while g < 10 {
        g = (g + 2);
    }
    check g == 10;
    tell (100 / x);
}
""")


def main_of(body, head=""):
    return parse(head + " proc main() { " + body + " }")


def with_state(paper, name, place, state):
    return tuple((*row[:2], state if row[:2] == (name, place) else row[2]) for row in paper)


def repaired(program, paper):
    """Point 28 word by word: the whole paper is judged for each complaint.

    Returns the paper and the states that each place got by ways, in order.
    """
    raised = {row[:2]: [] for row in paper}
    while complaints := judge(program, paper):
        name, place, word = complaints[0]
        if word == "begin":
            new = tuple((variable, ZERO) for variable in program[0])
            old = state_at(paper, "main", "in")
            paper = with_state(paper, "main", "in", new if old is None else state_join(old, new))
            continue
        (found,) = [way for way in ways(program, paper, name, place) if way[0] == word]
        _, *target, new = found
        old = state_at(paper, *target)
        if old is not None and len(raised[tuple(target)]) < 3:
            new = state_join(old, new)
        elif old is not None:
            new = tuple((mine[0], widen(mine[1], other[1], marks(program))) for mine, other in zip(old, new))
        raised[tuple(target)].append(new)
        paper = with_state(paper, *target, new)
    return paper, raised


def contains(outer, inner):
    """Whether each state of a paper is within that of another one."""
    for mine, other in zip(outer, inner, strict=True):
        if mine[:2] != other[:2]:
            return False
        if other[2] is not None and (mine[2] is None or not state_within(other[2], mine[2])):
            return False
    return True


class Marks(unittest.TestCase):
    def test_without_numbers(self):
        self.assertEqual(marks(main_of("ask x; tell x;")), ENDS)
        self.assertEqual(marks(main_of("")), ENDS)

    def test_each_number_with_its_neighbours_and_its_sign(self):
        self.assertEqual(marks(main_of("tell 5;")), (-10000, 4, 5, 6, 10000))
        self.assertEqual(marks(main_of("tell - 5;")), (-10000, -6, -5, -4, 10000))
        self.assertEqual(marks(main_of("tell 0;")), (-10000, -1, 0, 1, 10000))
        self.assertEqual(marks(main_of("tell - 0;")), (-10000, -1, 0, 1, 10000))
        self.assertEqual(marks(main_of("tell 1; tell - 1;")), (-10000, -2, -1, 0, 1, 2, 10000))

    def test_ascending_and_each_once(self):
        self.assertEqual(marks(main_of("tell 9; tell 5; tell 6; tell 5;")), (-10000, 4, 5, 6, 7, 8, 9, 10, 10000))

    def test_those_beyond_the_values_are_left_out(self):
        self.assertEqual(marks(main_of("tell 10000;")), (-10000, 9999, 10000))
        self.assertEqual(marks(main_of("tell -10000;")), (-10000, -9999, 10000))
        self.assertEqual(marks(main_of("tell 9999; tell -9999;")), (-10000, -9999, -9998, 9998, 9999, 10000))
        self.assertEqual(marks(main_of("tell 9998;")), (-10000, 9997, 9998, 9999, 10000))

    def test_numbers_everywhere(self):
        bodies = (
            "x = 50;", "x = (x + 50);", "x = (50 / x);", "tell ((x * (1 - 1)) + 50);", "check x < 50;", "need 50 == x;",
            "return 50;", "return (50 mod 50);", "if x < 50 { }", "if not not 50 < x { }", "while [x < 0 and 50 != x] { }",
            "while [50 < 50 or x < x] { }", "if x < x { tell 50; }", "if x < x { } else { tell 50; }",
            "while x < x { tell 50; }", "while x < x { if x < x { } else { while x < x { x = 50; } } }",
            "call f(50, x);", "call f(x, (x - 50)) to x;", "if x < x { call f(x, 50); }",
        )
        for body in bodies:
            with self.subTest(body):
                found = marks(parse("proc main() { ask x; " + body + " } proc f(a, b) { }"))
                self.assertEqual([n for n in found if 40 < n < 10000], [49, 50, 51])
        program = parse("proc f(a) { tell 7; } proc main() { } proc g() { tell -300; }")
        self.assertEqual(marks(program), (-10000, -301, -300, -299, 6, 7, 8, 10000))

    def test_the_integers_of_places_and_names_are_no_numbers(self):
        self.assertEqual(marks(main_of("ask x50; tell x50; ask y; ask z;")), ENDS)

    def test_the_example_of_the_document(self):
        self.assertEqual(marks(EXAMPLE), (-10000, -1, 0, 1, 2, 3, 9, 10, 11, 99, 100, 101, 10000))


class Repair(unittest.TestCase):
    def test_begin(self):
        program = main_of("", "global g; global h;")
        both = (("g", ZERO), ("h", ZERO))
        left = (*both, ("result", ZERO))
        paper = (("main", "in", None), ("main", "out", None))
        self.assertEqual(repair(program, paper), (("main", "in", both), ("main", "out", left)))
        given = (("g", (3, 9, 6)), ("h", (-4, -4, 0)))
        wanted = (("g", (0, 9, 3)), ("h", (-4, 0, 4)))
        self.assertEqual(
            repair(program, with_state(paper, "main", "in", given)),
            (("main", "in", wanted), ("main", "out", (*wanted, ("result", ZERO)))),
        )
        given = (("g", (-3, 9, 3)), ("h", (-4, -4, 0)))
        wanted = (("g", (-3, 9, 3)), ("h", (-4, 0, 4)))
        self.assertEqual(repair(program, with_state(paper, "main", "in", given))[0], ("main", "in", wanted))

    def test_begin_without_globals(self):
        program = main_of("")
        paper = (("main", "in", None), ("main", "out", None))
        self.assertEqual(repair(program, paper), (("main", "in", ()), ("main", "out", (("result", ZERO),))))

    def test_begin_is_no_raising(self):
        # The entry of main is raised by its own calls: three joins, then widened, whatever it began with.
        program = main_of("if g < 50 { g = (g + 2); call main(); }", "global g;")
        for first in (None, (("g", (2, 2, 0)),), (("g", ZERO),)):
            paper = with_state(blank_paper(program), "main", "in", first)
            wanted, raised = repaired(program, paper)
            self.assertEqual(repair(program, paper), wanted)
            joins = 3 if first != (("g", (2, 2, 0)),) else 2
            self.assertEqual([row[0][1] for row in raised["main", "in"]][:3], [
                (0, 2 * k, 2) for k in range(4 - joins, 7 - joins)
            ])
            self.assertGreater(raised["main", "in"][3][0][1][1], 8)

    def test_the_third_and_the_fourth_raising_of_a_place(self):
        program = main_of("while g < 900 { g = (g + 5); }", "global g;")
        _, raised = repaired(program, blank_paper(program))
        self.assertEqual([row[0][1] for row in raised["main", "0"]], [
            ZERO, (0, 5, 5), (0, 10, 5), (0, 895, 5), (0, 900, 5),
        ])
        self.assertEqual(state_at(solve(program), "main", "0"), (("g", (0, 900, 5)),))
        self.assertEqual(state_at(solve(program), "main", "out"), (("g", (900, 900, 0)), ("result", ZERO)))

    def test_a_loop_of_four_rounds_is_widened_and_one_of_two_is_not(self):
        body = "while g < {} {{ g = (g + 1); }} tell 40;"
        for limit, wanted in ((1, (0, 1, 1)), (2, (0, 2, 1)), (3, (0, 3, 1))):
            program = main_of(body.format(limit), "global g;")
            self.assertEqual(state_at(solve(program), "main", "0"), (("g", wanted),))
        # Here g is cut at 3 only behind the loop's head, and marks are far away.
        program = main_of("while 0 < 1 { need g < h; g = (g + 1); } ", "global g; global h;")
        paper = with_state(blank_paper(program), "main", "in", (("g", ZERO), ("h", (0, 6, 1))))
        self.assertEqual(state_at(repair(program, paper), "main", "0")[0], ("g", (0, 10000, 1)))
        paper = with_state(blank_paper(program), "main", "in", (("g", ZERO), ("h", (0, 2, 1))))
        self.assertEqual(state_at(repair(program, paper), "main", "0")[0], ("g", (0, 2, 1)))

    def test_a_raising_from_none_counts(self):
        program = main_of("while 0 < 1 { need g < h; g = (g + 1); } ", "global g; global h;")
        head = (("g", ZERO), ("h", (0, 3, 1)))
        paper = with_state(blank_paper(program), "main", "in", head)
        # None, 0, 0 and 1, 0 to 2: the fourth raising goes far.
        self.assertEqual(state_at(repair(program, paper), "main", "0")[0], ("g", (0, 10000, 1)))
        # The head's state is given: 0 and 1, 0 to 2, 0 to 3 are the three raisings.
        paper = with_state(paper, "main", "0", head)
        self.assertEqual(state_at(repair(program, paper), "main", "0")[0], ("g", (0, 3, 1)))

    def test_the_counts_begin_anew_with_each_repair(self):
        program = main_of("while 0 < 1 { need g < h; g = (g + 1); } ", "global g; global h;")
        paper = blank_paper(program)
        for high in range(9):
            # Each time one more raising, far more than three in all, and nothing is widened.
            paper = repair(program, with_state(paper, "main", "in", (("g", ZERO), ("h", (0, high, min(high, 1))))))
            self.assertEqual(state_at(paper, "main", "0")[0], ("g", (0, high, min(high, 1))))

    def test_the_first_of_two_complaints_about_one_place_counts(self):
        # Both ways of the "if" lead to the loop. The one range contains the other: only if it
        # comes first, it is the only raising, and the loop is not widened.
        for relation, high in (("!=", 12), ("==", 10000)):
            program = main_of(
                "if g " + relation + " 5 { } while 0 < 1 { need g < h; g = (g + 1); }", "global g; global h;",
            )
            paper = with_state(blank_paper(program), "main", "in", (("g", (0, 10, 1)), ("h", (0, 12, 1))))
            self.assertEqual(state_at(repair(program, paper), "main", "1")[0], ("g", (0, high, 1)))

    def test_each_place_is_counted_for_itself(self):
        program = main_of("while g < 500 { tell 1; g = (g + 5); }", "global g;")
        wanted, raised = repaired(program, blank_paper(program))
        self.assertEqual(solve(program), wanted)
        self.assertEqual([row[0][1] for row in raised["main", "0.0.1"]], [
            ZERO, (0, 5, 5), (0, 10, 5), (0, 495, 5),
        ])

    def test_widening_downwards(self):
        program = main_of("while -72 < g { g = (g - 4); }", "global g;")
        self.assertEqual(state_at(solve(program), "main", "0"), (("g", (-72, 0, 4)),))
        program = main_of("while -70 < g { g = (g - 4); }", "global g;")
        self.assertEqual(state_at(solve(program), "main", "0"), (("g", (-10000, 0, 4)),))

    def test_the_marks_of_all_procedures_count(self):
        text = "global g; global h; proc main() { while 0 < 1 { need g < h; g = (g + 1); } }"
        for more, high in (("", 10000), ("proc f() { tell 49; }", 50)):
            program = parse(text + more)
            paper = with_state(blank_paper(program), "main", "in", (("g", ZERO), ("h", (0, 50, 1))))
            self.assertEqual(state_at(repair(program, paper), "main", "0")[0], ("g", (0, high, 1)))

    def test_variable_by_variable(self):
        program = main_of("while 0 < 1 { ask y; x = (x + 1); need x < 50; }")
        self.assertEqual(solve(program), repaired(program, blank_paper(program))[0])
        self.assertEqual(state_at(solve(program), "main", "0"), (("x", (0, 49, 1)), ("y", (-10000, 10000, 1))))

    def test_the_blank_paper(self):
        program = parse("global g; proc main() { call f(3) to g; tell g; } proc f(x) { return (x * 2); } proc u() { }")
        six = (("g", (6, 6, 0)),)
        self.assertEqual(repair(program, blank_paper(program)), (
            ("main", "in", (("g", ZERO),)), ("main", "0", (("g", ZERO),)), ("main", "1", six),
            ("main", "out", (*six, ("result", ZERO))),
            ("f", "in", (("g", ZERO), ("x", (3, 3, 0)))), ("f", "0", (("g", ZERO), ("x", (3, 3, 0)))),
            ("f", "out", (("g", ZERO), ("result", (6, 6, 0)))),
            ("u", "in", None), ("u", "out", None),
        ))

    def test_an_exit_that_is_raised_lets_its_calls_go_on(self):
        program = parse("""
            proc f(x) { if x < 1 { return 5; } call f((x - 1)) to y; return (y + 1); }
            proc main() { call f(4) to z; tell z; }
        """)
        self.assertEqual(solve(program), repaired(program, blank_paper(program))[0])
        self.assertIsNotNone(state_at(solve(program), "main", "1"))

    def test_an_accepted_paper_is_returned(self):
        for number in range(100):
            program = made_program(number)
            for paper in (solve(program), repair(program, made_paper(program, number))):
                self.assertEqual(repair(program, paper), paper)

    def test_blank_papers_word_by_word(self):
        for number in range(150):
            program = made_program(number)
            self.assertEqual(solve(program), repaired(program, blank_paper(program))[0])

    def test_drawn_papers_word_by_word(self):
        for number in range(150):
            program = made_program(number)
            paper = made_paper(program, number)
            found = repair(program, paper)
            self.assertEqual(found, repaired(program, paper)[0])
            self.assertEqual(judge(program, found), ())
            self.assertTrue(contains(found, paper))

    def test_solve_is_repair_of_the_blank_paper(self):
        for number in range(100):
            program = made_program(number)
            self.assertEqual(solve(program), repair(program, blank_paper(program)))
            self.assertEqual(judge(program, solve(program)), ())

    def test_a_large_program(self):
        body = "".join(f"while [g{k} < {9000 - k} and -9000 < g{k}] {{ g{k} = (g{(k + 1) % 6} + {2 ** k});" for k in range(6))
        body += "".join(f"if a < {k * 311 - 4000} {{ a = (a + {k}); }}" for k in range(10)) + "call main();" + "}" * 6
        program = main_of("ask a; " + body, "".join(f"global g{k};" for k in range(6)))
        self.assertEqual(judge(program, solve(program)), ())


class Example(unittest.TestCase):
    def test_the_states_of_the_while(self):
        wanted, raised = repaired(EXAMPLE, blank_paper(EXAMPLE))
        self.assertEqual(solve(EXAMPLE), wanted)
        self.assertEqual([dict(row)["g"] for row in raised["main", "2"]], [
            ZERO, (0, 2, 2), (0, 4, 2), (0, 8, 2), (0, 10, 2),
        ])

    def test_the_paper(self):
        x = ("x", (1, 10000, 1))
        self.assertEqual(solve(EXAMPLE), (
            ("main", "in", (("g", ZERO),)),
            ("main", "0", (("g", ZERO), ("x", ZERO))),
            ("main", "1", (("g", ZERO), ("x", (-10000, 10000, 1)))),
            ("main", "2", (("g", (0, 10, 2)), x)),
            ("main", "2.0.0", (("g", (0, 8, 2)), x)),
            ("main", "3", (("g", (10, 10, 0)), x)),
            ("main", "4", (("g", (10, 10, 0)), x)),
            ("main", "out", (("g", (10, 10, 0)), ("result", ZERO))),
        ))


if __name__ == "__main__":
    unittest.main()
