"""Points 14 and 15: paths, places, and where a run goes on."""

import unittest

from carryclaim.parser import parse
from carryclaim.places import block_place, first_place, next_place, places, statement_at
from tests.made import made_program

TEXT = """\
global g;
proc main() {
    ask x;
    if x < 1 {
        ask a;
        while a < 2 {
            tell 1;
            if a < 3 {
            } else {
                tell 2;
            }
        }
    } else {
        while a < 4 {
        }
        if a < 5 {
            if a < 6 {
                tell 3;
                tell 4;
            }
        }
    }
    while a < 7 {
        while a < 8 {
            while a < 9 {
                if a < 10 {
                    tell 5;
                } else {
                }
            }
        }
    }
    tell 6;
}
proc empty() {
}
proc last() {
    if g < 1 {
        if g < 2 {
            while g < 3 {
                tell g;
            }
        }
    } else {
        tell 7;
    }
}
"""
PROGRAM = parse(TEXT)

# Each place of main, with the statement's number or name and where a run goes on behind it.
MAIN = (
    ("0", "ask", "1"),
    ("1", 1, "2"),
    ("1.0.0", "ask", "1.0.1"),
    ("1.0.1", 2, "2"),
    ("1.0.1.0.0", 1, "1.0.1.0.1"),
    ("1.0.1.0.1", 3, "1.0.1"),
    ("1.0.1.0.1.1.0", 2, "1.0.1"),
    ("1.1.0", 4, "1.1.1"),
    ("1.1.1", 5, "2"),
    ("1.1.1.0.0", 6, "2"),
    ("1.1.1.0.0.0.0", 3, "1.1.1.0.0.0.1"),
    ("1.1.1.0.0.0.1", 4, "2"),
    ("2", 7, "3"),
    ("2.0.0", 8, "2"),
    ("2.0.0.0.0", 9, "2.0.0"),
    ("2.0.0.0.0.0.0", 10, "2.0.0.0.0"),
    ("2.0.0.0.0.0.0.0.0", 5, "2.0.0.0.0"),
    ("3", 6, "out"),
)
LAST = (
    ("0", 1, "out"),
    ("0.0.0", 2, "out"),
    ("0.0.0.0.0", 3, "out"),
    ("0.0.0.0.0.0.0", "g", "0.0.0.0.0"),
    ("0.1.0", 7, "out"),
)


def mark_of(statement):
    """The number or name by which the texts above tell a statement."""
    if statement[0] == "ask":
        return "ask"
    if statement[0] == "tell":
        return statement[1][1]
    return statement[1][3][1]


class Places(unittest.TestCase):
    def test_places_in_the_order_of_the_text(self):
        self.assertEqual(places(PROGRAM, "main"), ("in", *(row[0] for row in MAIN), "out"))
        self.assertEqual(places(PROGRAM, "last"), ("in", *(row[0] for row in LAST), "out"))

    def test_an_empty_procedure(self):
        self.assertEqual(places(PROGRAM, "empty"), ("in", "out"))

    def test_the_example_of_the_document(self):
        program = parse(
            "global g; proc main() { ask x; need 0 < x; while g < 10 { g = (g + 2); } check g == 10; tell (100 / x); }"
        )
        self.assertEqual(places(program, "main"), ("in", "0", "1", "2", "2.0.0", "3", "4", "out"))

    def test_empty_blocks_have_no_places(self):
        program = parse("proc main() { if 0 < 1 { } while 0 < 1 { } if 0 < 1 { } else { ask x; } }")
        self.assertEqual(places(program, "main"), ("in", "0", "1", "2", "2.1.0", "out"))

    def test_indexes_of_two_digits(self):
        program = parse("proc main() {" + "ask x;" * 11 + "while x < 1 {" + "ask x;" * 12 + "} }")
        wanted = [str(k) for k in range(12)] + [f"11.0.{k}" for k in range(12)]
        self.assertEqual(places(program, "main"), ("in", *wanted, "out"))
        self.assertEqual(statement_at(program, "main", "11.0.11"), ("ask", "x"))
        self.assertEqual(next_place(program, "main", "9"), "10")
        self.assertEqual(next_place(program, "main", "11.0.9"), "11.0.10")
        self.assertEqual(next_place(program, "main", "11.0.11"), "11")

    def test_blocks_twelve_deep(self):
        program = parse("proc main() {" + "if 0 < 1 { } else {" * 11 + "ask x;" + "}" * 12)
        wanted = ["0" + ".1.0" * k for k in range(12)]
        self.assertEqual(places(program, "main"), ("in", *wanted, "out"))
        self.assertEqual(statement_at(program, "main", wanted[-1]), ("ask", "x"))
        self.assertEqual(next_place(program, "main", wanted[-1]), "out")


class Statements(unittest.TestCase):
    def test_the_statement_of_each_place(self):
        for name, rows in (("main", MAIN), ("last", LAST)):
            for place, mark, _ in rows:
                with self.subTest(name, place=place):
                    self.assertEqual(mark_of(statement_at(PROGRAM, name, place)), mark)

    def test_a_whole_statement(self):
        block = (("tell", ("name", "g")),)
        wanted = ("while", ("compare", "<", ("name", "g"), ("number", 3)), block)
        self.assertEqual(statement_at(PROGRAM, "last", "0.0.0.0.0"), wanted)
        self.assertEqual(statement_at(PROGRAM, "last", "0.0.0.0.0.0.0"), block[0])
        self.assertEqual(statement_at(PROGRAM, "main", "0"), ("ask", "x"))

    def test_in_and_out_are_no_statements(self):
        for name in ("main", "empty", "last"):
            self.assertIsNone(statement_at(PROGRAM, name, "in"))
            self.assertIsNone(statement_at(PROGRAM, name, "out"))

    def test_places_that_there_are_not(self):
        wrong = (
            "4", "10", "100", "0.0.0", "0.0", "1.0", "1.1", "1.2", "1.2.0", "1.0.2", "1.1.2", "2.1.0", "2.0.1",
            "1.0.1.1.0", "1.0.1.0", "1.0.1.0.1.0.0", "1.1.0.0.0", "3.0.0", "2.0.0.0.0.0.0.1.0", "1.0.0.0.0",
        )
        for place in wrong:
            with self.subTest(place):
                self.assertIsNone(statement_at(PROGRAM, "main", place))
        self.assertIsNone(statement_at(PROGRAM, "empty", "0"))

    def test_texts_that_are_no_places(self):
        wrong = (
            "", ".", "..", "0.", ".0", "1..0", "00", "01", "1.0.00", "1.00.0", "1.0.01", "+1", "-1", "-0", " 0", "0 ",
            "0\n", "1.-1.0", "1.0.-1", "1 .0.0", "1,0,0", "x", "In", "OUT", "inout", "1.0.x", "0x0", "1_0", "1e0",
            "9" * 30, "1.0." + "9" * 30, "9" * 6000, "0" * 6000, "1." + "0" * 6000 + ".0",
        )
        for place in wrong:
            with self.subTest(place[:40]):
                self.assertIsNone(statement_at(PROGRAM, "main", place))


class GoingOn(unittest.TestCase):
    def test_first_place(self):
        self.assertEqual(first_place(PROGRAM, "main"), "0")
        self.assertEqual(first_place(PROGRAM, "empty"), "out")
        self.assertEqual(first_place(PROGRAM, "last"), "0")

    def test_next_place(self):
        for name, rows in (("main", MAIN), ("last", LAST)):
            for place, _, wanted in rows:
                with self.subTest(name, place=place):
                    self.assertEqual(next_place(PROGRAM, name, place), wanted)

    def test_next_place_at_the_end_of_each_kind_of_block(self):
        cases = (
            ("{}", "0", "out"),
            ("if 0 < 1 { {} }", "0.0.0", "out"),
            ("if 0 < 1 { } else { {} }", "0.1.0", "out"),
            ("if 0 < 1 { {} } else { ask y; }", "0.0.0", "out"),
            ("if 0 < 1 { {} } ask y;", "0.0.0", "1"),
            ("if 0 < 1 { } else { {} } ask y;", "0.1.0", "1"),
            ("while 0 < 1 { {} }", "0.0.0", "0"),
            ("ask y; while 0 < 1 { {} } ask y;", "1.0.0", "1"),
            ("while 0 < 1 { if 0 < 1 { {} } }", "0.0.0.0.0", "0"),
            ("while 0 < 1 { if 0 < 1 { {} } ask y; }", "0.0.0.0.0", "0.0.1"),
            ("if 0 < 1 { while 0 < 1 { {} } } ask y;", "0.0.0.0.0", "0.0.0"),
            ("if 0 < 1 { if 0 < 1 { } else { if 0 < 1 { {} } } } ask y;", "0.0.0.1.0.0.0", "1"),
        )
        for text, place, wanted in cases:
            with self.subTest(text):
                program = parse("proc main() { " + text.replace("{}", "ask x;") + " }")
                self.assertEqual(statement_at(program, "main", place), ("ask", "x"))
                self.assertEqual(next_place(program, "main", place), wanted)

    def test_next_place_of_a_return_and_of_a_call(self):
        program = parse("proc main() { return 1; call main(); }")
        self.assertEqual(next_place(program, "main", "0"), "1")
        self.assertEqual(next_place(program, "main", "1"), "out")

    def test_block_place_of_blocks_that_are_not_empty(self):
        cases = (
            ("1", 0, "1.0.0"), ("1", 1, "1.1.0"), ("1.0.1", 0, "1.0.1.0.0"), ("1.0.1.0.1", 1, "1.0.1.0.1.1.0"),
            ("1.1.1", 0, "1.1.1.0.0"), ("1.1.1.0.0", 0, "1.1.1.0.0.0.0"), ("2", 0, "2.0.0"),
            ("2.0.0.0.0", 0, "2.0.0.0.0.0.0"), ("2.0.0.0.0.0.0", 0, "2.0.0.0.0.0.0.0.0"),
        )
        for place, index, wanted in cases:
            with self.subTest(place, index=index):
                self.assertEqual(block_place(PROGRAM, "main", place, index), wanted)

    def test_block_place_of_empty_blocks(self):
        cases = (
            ("main", "1.0.1.0.1", 0, "1.0.1"),
            ("main", "1.1.0", 0, "1.1.0"),
            ("main", "1.1.1", 1, "2"),
            ("main", "1.1.1.0.0", 1, "2"),
            ("main", "2.0.0.0.0.0.0", 1, "2.0.0.0.0"),
            ("last", "0.0.0", 1, "out"),
        )
        for name, place, index, wanted in cases:
            with self.subTest(name, place=place):
                self.assertEqual(block_place(PROGRAM, name, place, index), wanted)

    def test_empty_blocks_ahead_of_other_statements(self):
        program = parse("proc main() { if 0 < 1 { } ask x; while 0 < 1 { } ask x; if 0 < 1 { } }")
        self.assertEqual(block_place(program, "main", "0", 0), "1")
        self.assertEqual(block_place(program, "main", "0", 1), "1")
        self.assertEqual(block_place(program, "main", "2", 0), "2")
        self.assertEqual(next_place(program, "main", "2"), "3")
        self.assertEqual(block_place(program, "main", "4", 0), "out")
        self.assertEqual(block_place(program, "main", "4", 1), "out")


def walked(block, around, behind):
    """Rows (path, statement, next place) of a block; behind is where its end leads."""
    rows = []
    for index, statement in enumerate(block):
        path = around + [index]
        place = ".".join(map(str, path))
        last = index == len(block) - 1
        following = behind if last else ".".join(map(str, around + [index + 1]))
        rows.append((place, statement, following))
        end = place if statement[0] == "while" else following
        blocks = statement[2:] if statement[0] in ("if", "while") else ()
        for number, inner in enumerate(blocks):
            rows.extend(walked(inner, path + [number], end))
    return rows


class MadePrograms(unittest.TestCase):
    def test_all_places(self):
        for number in range(200):
            program = made_program(number)
            for name, _, block in program[1]:
                rows = walked(block, [], "out")
                self.assertEqual(places(program, name), ("in", *(row[0] for row in rows), "out"))
                self.assertEqual(first_place(program, name), rows[0][0] if rows else "out")
                for place, statement, following in rows:
                    self.assertEqual(statement_at(program, name, place), statement)
                    self.assertEqual(next_place(program, name, place), following)
                    if statement[0] in ("if", "while"):
                        self.assert_blocks(program, name, place, statement, following)

    def assert_blocks(self, program, name, place, statement, following):
        for index, inner in enumerate(statement[2:]):
            wanted = place if statement[0] == "while" else following
            if inner:
                wanted = f"{place}.{index}.0"
            self.assertEqual(block_place(program, name, place, index), wanted)


if __name__ == "__main__":
    unittest.main()
