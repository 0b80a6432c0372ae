"""Points 34 to 36: carried papers, touched places, and complaints about them."""

import unittest

from carryclaim.carrying import carry, rejudge, touched
from carryclaim.edits import apply, moved_place
from carryclaim.errors import EditProblem
from carryclaim.judging import judge
from carryclaim.papers import blank_paper, state_at
from carryclaim.parser import parse
from carryclaim.solving import repair, solve
from tests.made import changed_names, lively_program, made_edit, made_paper, made_program
from tests.test_places import walked

ZERO = (0, 0, 0)
NEW = ("tell", ("number", 99))
PROGRAM = parse("""
    global g;
    proc main() {
        ask x;
        while x < 9 {
            x = (x + 1);
            if g < 5 {
                g = (g + x);
            }
        }
        call f(x, g) to y;
        tell y;
    }
    proc f(q, p) {
        if q < p {
            return p;
        } else {
            r = q;
        }
        return r;
    }
    proc h() {
    }
""")
PAPER = made_paper(PROGRAM, 5)


def statement(text):
    return parse("proc main() { " + text + " }")[1][0][2][0]


def procedure(text):
    return parse(text)[1][0]


def one(n):
    return (n, n, 0)


def renamed(pairs, old, new):
    return tuple((new if name == old else name, span) for name, span in pairs)


def applying_edits(program, number, many):
    """Some made edits that apply to the program."""
    found = []
    for more in range(many):
        edit = made_edit(program, f"{number} {more}")
        try:
            apply(program, edit)
        except EditProblem:
            continue
        found.append(edit)
    return found


class Carry(unittest.TestCase):
    def test_edits_that_move_nothing_and_change_no_name(self):
        for edit in (("replace", "f", (1,), statement("return q;")), ("replace", "main", (0,), statement("x = 3;"))):
            gone = (edit[1], str(edit[2][0]))
            wanted = tuple((*row[:2], None if row[:2] == gone else row[2]) for row in PAPER)
            self.assertEqual(carry(PROGRAM, PAPER, edit), wanted)

    def places_of(self, edit):
        """For each place of the carried paper: the places of the old one that have its state."""
        marked = tuple(
            (name, place, state if state is None else tuple((word, one(at)) for word, _ in state))
            for at, (name, place, state) in enumerate(solve(PROGRAM))
        )
        found = []
        for name, place, state in carry(PROGRAM, marked, edit):
            at = None if state is None else state[0][1][0]
            found.append((name, place, None if at is None else marked[at][:2]))
        return found

    def test_states_move_with_their_places(self):
        moves = [
            ("main", "in", ("main", "in")), ("main", "0", ("main", "0")), ("main", "1", None), ("main", "2", ("main", "1")),
            ("main", "2.0.0", ("main", "1.0.0")), ("main", "2.0.1", ("main", "1.0.1")),
            ("main", "2.0.1.0.0", ("main", "1.0.1.0.0")), ("main", "3", ("main", "2")), ("main", "4", ("main", "3")),
            ("main", "out", ("main", "out")),
        ]
        rest = [
            ("f", place, ("f", place)) for place in ("in", "0", "0.0.0", "0.1.0", "1", "out")
        ] + [("h", "in", None), ("h", "out", None)]
        self.assertEqual(self.places_of(("insert", "main", (1,), NEW)), moves + rest)
        swapped = [
            *moves[:2], ("main", "1", ("main", "2")), *moves[3:7], ("main", "3", ("main", "3")), moves[9],
        ]
        swapped[3] = ("main", "2", ("main", "1"))
        self.assertEqual(self.places_of(("swap", "main", (1,))), swapped + rest)
        deleted = [
            ("main", "in", ("main", "in")), ("main", "0", ("main", "0")), ("main", "1", ("main", "1")),
            ("main", "1.0.0", ("main", "1.0.1")), ("main", "1.0.0.0.0", ("main", "1.0.1.0.0")),
            ("main", "2", ("main", "2")), ("main", "3", ("main", "3")), ("main", "out", ("main", "out")),
        ]
        self.assertEqual(self.places_of(("delete", "main", (1, 0, 0))), deleted + rest)
        replaced = [
            ("main", "in", ("main", "in")), ("main", "0", ("main", "0")), ("main", "1", None),
            ("main", "2", ("main", "2")), ("main", "3", ("main", "3")), ("main", "out", ("main", "out")),
        ]
        self.assertEqual(self.places_of(("replace", "main", (1,), NEW)), replaced + rest)

    def test_a_new_statement_with_blocks_has_no_states(self):
        edit = ("replace", "f", (0,), statement("while q < p { r = 1; }"))
        carried = carry(PROGRAM, PAPER, edit)
        for place in ("0", "0.0.0"):
            self.assertIsNone(state_at(carried, "f", place))

    def test_a_variable_that_comes(self):
        paper = repair(PROGRAM, PAPER)
        edit = ("insert", "main", (2,), statement("ask b;"))
        for name, place, state in carry(PROGRAM, paper, edit):
            if name == "main" and place not in ("in", "out", "2"):
                self.assertEqual([row[0] for row in state], ["g", "b", "x", "y"])
                self.assertEqual(dict(state)["b"], ZERO)
        self.assertEqual(state_at(carry(PROGRAM, paper, edit), "main", "in"), state_at(paper, "main", "in"))
        self.assertEqual(state_at(carry(PROGRAM, paper, edit), "main", "out"), state_at(paper, "main", "out"))
        self.assertEqual(state_at(carry(PROGRAM, paper, edit), "f", "1"), state_at(paper, "f", "1"))

    def test_a_variable_that_goes(self):
        program = parse("proc main() { ask x; ask z; ask y; tell x; tell y; } proc f() { ask z; }")
        paper = repair(program, made_paper(program, 3))
        carried = carry(program, paper, ("delete", "main", (1,)))
        old = dict(state_at(paper, "main", "3"))
        self.assertEqual(state_at(carried, "main", "2"), (("x", old["x"]), ("y", old["y"])))
        self.assertEqual(state_at(carried, "f", "0"), state_at(paper, "f", "0"))

    def test_a_parameter_and_a_global_never_go(self):
        program = parse("global g; proc main() { ask g; } proc f(x) { ask x; g = x; }")
        paper = repair(program, made_paper(program, 1))
        for edit in (("delete", "f", (0,)), ("delete", "f", (1,)), ("delete", "main", (0,))):
            carried = carry(program, paper, edit)
            for name, place in (("main", "in"), ("main", "out"), ("f", "in"), ("f", "out")):
                self.assertEqual(state_at(carried, name, place), state_at(paper, name, place))
            if edit[1] == "f":
                self.assertEqual([row[0] for row in state_at(carried, "f", "0")], ["g", "x"])

    def test_one_comes_and_one_goes(self):
        program = parse("global g; proc main() { ask b; ask d; tell 1; }")
        paper = (
            ("main", "in", (("g", one(1)),)), ("main", "0", (("g", one(2)), ("b", one(3)), ("d", one(4)))),
            ("main", "1", (("g", one(5)), ("b", one(6)), ("d", one(7)))), ("main", "2", None),
            ("main", "out", (("g", one(8)), ("result", one(9)))),
        )
        for text, names in (("ask a;", "a b"), ("ask c;", "b c"), ("ask z;", "b z"), ("ask g;", "b")):
            wanted = (
                paper[0], ("main", "0", (("g", one(2)), *[(w, one(3) if w == "b" else ZERO) for w in names.split()])),
                ("main", "1", None), ("main", "2", None), paper[4],
            )
            self.assertEqual(carry(program, paper, ("replace", "main", (1,), statement(text))), wanted)

    def test_a_variable_of_the_same_name_in_another_procedure(self):
        program = parse("proc main() { ask x; } proc f() { tell 1; }")
        paper = (
            ("main", "in", ()), ("main", "0", (("x", one(1)),)), ("main", "out", None),
            ("f", "in", ()), ("f", "0", ()), ("f", "out", None),
        )
        carried = carry(program, paper, ("insert", "f", (0,), statement("ask x;")))
        self.assertEqual(carried, (*paper[:4], ("f", "0", None), ("f", "1", (("x", ZERO),)), paper[5]))

    def test_rename_of_a_local(self):
        for new, order in (("a", "g a y"), ("xx", "g xx y"), ("z", "g y z")):
            carried = carry(PROGRAM, PAPER, ("rename", "x", new))
            for old, row in zip(PAPER, carried, strict=True):
                self.assertEqual(row[:2], old[:2])
                if old[2] is None or old[0] != "main" or old[1] in ("in", "out"):
                    self.assertEqual(row, old)
                else:
                    self.assertEqual(" ".join(pair[0] for pair in row[2]), order)
                    self.assertEqual(dict(row[2]), dict(renamed(old[2], "x", new)))

    def test_rename_of_a_parameter(self):
        carried = carry(PROGRAM, PAPER, ("rename", "q", "z"))
        self.assertEqual(state_at(carried, "f", "in"), renamed(state_at(PAPER, "f", "in"), "q", "z"))
        self.assertEqual([row[0] for row in state_at(carried, "f", "in")], ["g", "z", "p"])
        self.assertEqual([row[0] for row in state_at(carried, "f", "0")], ["g", "p", "r", "z"])
        self.assertEqual(dict(state_at(carried, "f", "0"))["z"], dict(state_at(PAPER, "f", "0"))["q"])

    def test_rename_of_a_global(self):
        carried = carry(PROGRAM, PAPER, ("rename", "g", "zz"))
        self.assertEqual(carried, tuple((*row[:2], row[2] and renamed(row[2], "g", "zz")) for row in PAPER))

    def test_rename_to_result_and_from_result(self):
        program = parse("global g; global h; proc main() { ask x; }")
        paper = (
            ("main", "in", (("g", one(1)), ("h", one(2)))),
            ("main", "0", (("g", one(3)), ("h", one(4)), ("x", one(5)))),
            ("main", "out", (("g", one(6)), ("h", one(7)), ("result", one(8)))),
        )
        other = (
            ("main", "in", (("result", one(1)), ("h", one(2)))),
            ("main", "0", (("result", one(3)), ("h", one(4)), ("x", one(5)))),
            ("main", "out", (("result", one(6)), ("h", one(7)), ("result", one(8)))),
        )
        self.assertEqual(carry(program, paper, ("rename", "g", "result")), other)
        self.assertEqual(carry(apply(program, ("rename", "g", "result")), other, ("rename", "result", "g")), paper)
        wanted = tuple((*row[:2], renamed(row[2], "x", "result")) for row in paper)
        self.assertEqual(carry(program, paper, ("rename", "x", "result")), wanted)

    def test_the_result_of_an_exit_is_no_variable(self):
        program = parse("proc main() { ask result; tell result; }")
        paper = (
            ("main", "in", ()), ("main", "0", (("result", one(1)),)), ("main", "1", (("result", one(2)),)),
            ("main", "out", (("result", one(3)),)),
        )
        wanted = (paper[0], ("main", "0", (("b", one(1)),)), ("main", "1", (("b", one(2)),)), paper[3])
        self.assertEqual(carry(program, paper, ("rename", "result", "b")), wanted)
        carried = carry(program, paper, ("delete", "main", (1,)))
        self.assertEqual(carried, (paper[0], paper[1], paper[3]))
        program = parse("global result; proc main() { ask x; ask x; }")
        paper = (
            ("main", "in", None), ("main", "0", None), ("main", "1", None),
            ("main", "out", (("result", one(3)), ("result", one(4)))),
        )
        self.assertEqual(carry(program, paper, ("delete", "main", (1,)))[-1], paper[-1])

    def test_call_it(self):
        carried = carry(PROGRAM, PAPER, ("call it", "f", "a"))
        self.assertEqual(carried, tuple(("a" if row[0] == "f" else row[0], *row[1:]) for row in PAPER))

    def test_add(self):
        carried = carry(PROGRAM, PAPER, ("add", procedure("proc a(x) { tell x; }")))
        self.assertEqual(carried, (*PAPER, ("a", "in", None), ("a", "0", None), ("a", "out", None)))

    def test_drop(self):
        self.assertEqual(carry(PROGRAM, PAPER, ("drop", "h")), PAPER[:-2])
        program = parse("proc a() { ask x; } proc main() { ask y; }")
        paper = made_paper(program, 1)
        self.assertEqual(carry(program, paper, ("drop", "a")), paper[3:])

    def test_made_papers_word_by_word(self):
        for number in range(150):
            program = (made_program, lively_program)[number % 2](number)
            paper = made_paper(program, number)
            for edit in applying_edits(program, number, 6):
                self.assertEqual(carry(program, paper, edit), self.carried(program, paper, edit))

    def carried(self, program, paper, edit):
        """Point 34 in a way of its own."""
        edited = apply(program, edit)
        old, new = edit[1:3] if edit[0] == "rename" else ("", "")
        found = []
        for row in blank_paper(edited):
            sources = [other for other in paper if moved_place(program, edit, *other[:2]) == row[:2]]
            state = sources[0][2] if sources else None
            if state is not None:
                (given, block), = [part[1:] for part in edited[1] if part[0] == row[0]]
                own = sorted(set(given) | changed_names(block) - set(edited[0]))
                words = {"in": (*edited[0], *given), "out": edited[0]}.get(row[1], (*edited[0], *own))
                body = state[:-1] if row[1] == "out" else state
                known = {(new if word == old else word): span for word, span in body}
                state = (*((word, known.get(word, ZERO)) for word in words), *state[len(body):])
            found.append((*row[:2], state))
        return tuple(found)


def edges(program):
    """Where the ways out of each place lead, by the form of its statement."""
    found = {}
    for name, _, block in program[1]:
        rows = walked(block, [], "out")
        found[name, "in"] = [(name, rows[0][0] if rows else "out")]
        found[name, "out"] = []
        for place, known, following in rows:
            targets = [following]
            if known[0] == "return":
                targets = ["out"]
            if known[0] in ("if", "while"):
                empty = place if known[0] == "while" else following
                targets = [f"{place}.{index}.0" if inner else empty for index, inner in enumerate(known[2:])]
            if known[0] == "while":
                targets.append(following)
            found[name, place] = [(name, target) for target in targets]
            if known[0] == "call":
                found[name, place].insert(0, (known[1], "in"))
    return found


class Touched(unittest.TestCase):
    def assert_touched(self, edit, *wanted, program=PROGRAM):
        with self.subTest(edit=edit):
            self.assertEqual(touched(program, edit), wanted)

    def test_replace(self):
        self.assert_touched(("replace", "main", (0,), statement("x = 1;")), ("main", "in"))
        self.assert_touched(("replace", "main", (1,), NEW), ("main", "0"))
        self.assert_touched(("replace", "main", (1, 0, 0), NEW), ("main", "1"))
        self.assert_touched(("replace", "main", (1, 0, 1), NEW), ("main", "1.0.0"))
        self.assert_touched(("replace", "main", (1, 0, 1, 0, 0), NEW), ("main", "1.0.1"))
        self.assert_touched(("replace", "main", (2,), statement("y = 1;")), ("main", "1"))
        self.assert_touched(("replace", "main", (3,), NEW), ("main", "2"))
        self.assert_touched(("replace", "f", (0, 0, 0), NEW), ("f", "0"))
        self.assert_touched(("replace", "f", (1,), NEW), ("f", "0.1.0"))

    def test_replace_of_a_head_of_a_loop(self):
        program = parse("proc main() { while 0 < 1 { tell 1; if 0 < 1 { tell 2; } while 0 < 2 { tell 3; } } tell 4; }")
        self.assert_touched(("replace", "main", (0,), NEW), ("main", "in"), program=program)
        self.assert_touched(
            ("replace", "main", (0, 0, 2), NEW), ("main", "0.0.1"), ("main", "0.0.1.0.0"), program=program,
        )

    def test_insert(self):
        self.assert_touched(("insert", "main", (0,), NEW), ("main", "in"))
        self.assert_touched(("insert", "main", (1,), NEW), ("main", "0"))
        self.assert_touched(("insert", "main", (2,), NEW), ("main", "1"))
        self.assert_touched(("insert", "main", (3,), NEW), ("main", "2"))
        self.assert_touched(("insert", "main", (4,), NEW), ("main", "3"))
        self.assert_touched(("insert", "main", (1, 0, 0), NEW), ("main", "1"))
        self.assert_touched(("insert", "main", (1, 0, 1), NEW), ("main", "1.0.0"))
        self.assert_touched(("insert", "main", (1, 0, 2), NEW), ("main", "1.0.1"), ("main", "1.0.1.0.0"))
        self.assert_touched(("insert", "main", (1, 0, 1, 0, 0), NEW), ("main", "1.0.1"))
        self.assert_touched(("insert", "main", (1, 0, 1, 0, 1), NEW), ("main", "1.0.1.0.0"))
        self.assert_touched(("insert", "main", (1, 0, 1, 1, 0), NEW), ("main", "1.0.1"))
        self.assert_touched(("insert", "f", (0,), NEW), ("f", "in"))
        self.assert_touched(("insert", "f", (1,), NEW), ("f", "0.1.0"))
        self.assert_touched(("insert", "f", (2,), NEW))
        self.assert_touched(("insert", "f", (0, 0, 1), NEW))
        self.assert_touched(("insert", "h", (0,), NEW), ("h", "in"))

    def test_insert_into_empty_blocks(self):
        program = parse("proc main() { if 0 < 1 { } while 0 < 1 { } }")
        self.assert_touched(("insert", "main", (0, 0, 0), NEW), ("main", "0"), program=program)
        self.assert_touched(("insert", "main", (0, 1, 0), NEW), ("main", "0"), program=program)
        self.assert_touched(("insert", "main", (1, 0, 0), NEW), ("main", "1"), program=program)
        self.assert_touched(("insert", "main", (1,), NEW), ("main", "0"), program=program)
        self.assert_touched(("insert", "main", (2,), NEW), ("main", "1"), program=program)

    def test_delete(self):
        self.assert_touched(("delete", "main", (1,)), ("main", "0"))
        self.assert_touched(("delete", "main", (1, 0, 0)), ("main", "1"))
        self.assert_touched(("delete", "main", (1, 0, 1)), ("main", "1.0.0"))
        self.assert_touched(("delete", "main", (1, 0, 1, 0, 0)), ("main", "1.0.1"))
        self.assert_touched(("delete", "main", (3,)), ("main", "2"))
        self.assert_touched(("delete", "f", (0, 0, 0)), ("f", "0"))
        self.assert_touched(("delete", "f", (1,)), ("f", "0.1.0"))
        program = parse("proc main() { tell 1; } proc f() { while 0 < 1 { tell 1; } }")
        self.assert_touched(("delete", "main", (0,)), ("main", "in"), program=program)
        self.assert_touched(("delete", "f", (0, 0, 0)), ("f", "0"), program=program)

    def test_swap(self):
        self.assert_touched(("swap", "main", (0,)), ("main", "in"), ("main", "0"), ("main", "1"))
        self.assert_touched(("swap", "main", (1,)), ("main", "0"), ("main", "1"), ("main", "2"))
        self.assert_touched(("swap", "main", (1, 0, 0)), ("main", "1"), ("main", "1.0.0"), ("main", "1.0.0.0.0"), ("main", "1.0.1"))
        self.assert_touched(("swap", "f", (0,)), ("f", "in"), ("f", "1.1.0"))
        program = parse("proc main() { return 1; return 2; tell 3; }")
        self.assert_touched(("swap", "main", (0,)), ("main", "in"), program=program)
        self.assert_touched(("swap", "main", (1,)), ("main", "1"), program=program)

    def test_edits_that_touch_nothing(self):
        for edit in (
            ("rename", "x", "z"), ("rename", "g", "a"), ("call it", "f", "a"), ("call it", "h", "a"), ("drop", "h"),
            ("add", procedure("proc a() { call f(1, 2); }")),
        ):
            self.assert_touched(edit)

    def test_a_return_is_never_touched(self):
        program = parse("proc main() { return 1; tell 1; }")
        self.assert_touched(("replace", "main", (1,), NEW), program=program)
        self.assert_touched(("delete", "main", (1,)), program=program)
        self.assert_touched(("insert", "main", (1,), NEW), program=program)

    def test_the_order_of_the_new_paper(self):
        program = parse("proc main() { tell 1; if 0 < 1 { tell 2; } else { tell 3; } tell 4; }")
        self.assert_touched(
            ("swap", "main", (1,)), ("main", "0"), ("main", "1"), ("main", "2.0.0"), ("main", "2.1.0"), program=program,
        )
        self.assert_touched(("insert", "main", (2,), NEW), ("main", "1.0.0"), ("main", "1.1.0"), program=program)

    def test_made_edits_word_by_word(self):
        several = 0
        for number in range(200):
            program = (made_program, lively_program)[number % 2](number)
            for edit in applying_edits(program, number, 6):
                found = touched(program, edit)
                self.assertEqual(found, self.touched_places(program, edit))
                several += len(found) > 1
        self.assertGreater(several, 50)

    def touched_places(self, program, edit):
        """Point 35 in a way of its own."""
        edited = apply(program, edit)
        old, new = edges(program), edges(edited)
        moved = {}
        for key in old:
            target = moved_place(program, edit, *key)
            if target is not None:
                moved[target] = key
        found = []
        for row in blank_paper(edited):
            if row[:2] in moved:
                before = old[moved[row[:2]]]
                if [moved_place(program, edit, *key) for key in before] != new[row[:2]]:
                    found.append(row[:2])
        return tuple(found)


class Rejudge(unittest.TestCase):
    def assert_rejudged(self, program, paper, edit):
        edited = apply(program, edit)
        found = rejudge(program, paper, edit)
        every = judge(edited, carry(program, paper, edit))
        near = touched(program, edit)
        self.assertEqual(found, tuple(row for row in every if row[:2] in near and row[2] != "begin"))
        if judge(program, paper) == ():
            self.assertEqual(found, every)
        return found

    def test_an_accepted_paper(self):
        paper = solve(PROGRAM)
        cases = (
            (("replace", "f", (1,), statement("return (r + 1);")), (("f", "0.1.0", "next"),)),
            (("insert", "main", (0,), NEW), (("main", "in", "start"),)),
            (("insert", "main", (2,), NEW), (("main", "1", "no"),)),
            (("insert", "main", (4,), NEW), (("main", "3", "next"),)),
            (("delete", "main", (3,)), ()),
            (("delete", "main", (1, 0, 0)), (("main", "1", "yes"),)),
            (("rename", "x", "a"), ()), (("call it", "f", "a"), ()), (("drop", "h"), ()),
            (("add", procedure("proc a() { call f(1, 2); }")), ()),
        )
        for edit, wanted in cases:
            with self.subTest(edit=edit):
                found = self.assert_rejudged(PROGRAM, paper, edit)
                if wanted != ():
                    self.assertEqual(found, wanted)

    def test_a_call_that_is_touched(self):
        paper = solve(PROGRAM)
        self.assertEqual(rejudge(PROGRAM, paper, ("insert", "main", (3,), NEW)), (("main", "2", "back"),))
        self.assertEqual(rejudge(PROGRAM, paper, ("delete", "main", (3,))), ())
        self.assertEqual(rejudge(PROGRAM, paper, ("replace", "main", (3,), NEW)), (("main", "2", "back"),))

    def test_begin_is_never_among_them(self):
        paper = blank_paper(PROGRAM)
        paper = (("main", "in", (("g", one(1)),)), *paper[1:])
        edit = ("insert", "main", (0,), NEW)
        self.assertEqual(rejudge(PROGRAM, paper, edit), (("main", "in", "start"),))
        self.assertEqual(
            judge(apply(PROGRAM, edit), carry(PROGRAM, paper, edit)), (("main", "in", "begin"), ("main", "in", "start")),
        )
        paper = (("main", "in", None), *paper[1:])
        self.assertEqual(rejudge(PROGRAM, paper, edit), ())

    def test_complaints_about_untouched_places_are_left_out(self):
        program = parse("proc main() { ask x; tell x; tell 1; }")
        paper = made_paper(program, 8)
        self.assertEqual(rejudge(program, paper, ("rename", "x", "y")), ())
        self.assertNotEqual(judge(program, paper), ())

    def test_made_programs(self):
        accepted = with_complaints = 0
        for number in range(200):
            program = (made_program, lively_program)[number % 2](number)
            for edit in applying_edits(program, number, 5):
                for paper in (solve(program), repair(program, made_paper(program, number))):
                    accepted += 1
                    with_complaints += self.assert_rejudged(program, paper, edit) != ()
                self.assert_rejudged(program, made_paper(program, number), edit)
        self.assertGreater(accepted, 500)
        self.assertGreater(with_complaints, 100)

    def test_every_path_edit_of_a_program(self):
        paper = repair(PROGRAM, PAPER)
        edits = 0
        for name, texts in (("main", ("ask x;", "y = g;", "ask new;", "return x;", "while x < g { ask y; }", "call main() to x;")),
                            ("f", ("ask q;", "r = p;", "ask a;", "return g;", "if p < q { ask r; } else { g = 2; }"))):
            paths = [tuple(map(int, row[1].split("."))) for row in PAPER if row[0] == name and row[1] not in ("in", "out")]
            paths += [(*path[:-1], path[-1] + 1) for path in paths] + [(*path, index, 0) for path in paths for index in (0, 1)]
            for path in sorted(set(paths)):
                for edit in (
                    ("delete", name, path), ("swap", name, path), *[("replace", name, path, statement(t)) for t in texts],
                    *[("insert", name, path, statement(t)) for t in texts],
                ):
                    try:
                        apply(PROGRAM, edit)
                    except EditProblem:
                        continue
                    edits += 1
                    self.assert_rejudged(PROGRAM, paper, edit)
        self.assertGreater(edits, 150)


if __name__ == "__main__":
    unittest.main()
