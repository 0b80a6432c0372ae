"""Point 7: the text of a program."""

import unittest

from carryclaim.lexer import tokens
from carryclaim.parser import parse
from carryclaim.writer import write
from tests.made import made_program

X = ("name", "x")
Y = ("name", "y")
ONE = ("number", 1)
X_BELOW_ONE = ("compare", "<", X, ONE)
ONE_IS_Y = ("compare", "==", ONE, Y)

EXAMPLE = """\
global g;
proc main() {
    ask x;
    need 0 < x;
    while g < 10 {
        g = (g + 2);
    }
    check g == 10;
    tell (100 / x);
}
"""

EVERY_FORM = """\
global g;
global h;
proc main() {
    ask x;
    g = -10000;
    h = 0;
    call second(x, -1, (g + (x * 3))) to y;
    call second(((x mod y) - -4), 10000, y);
    call third();
    call third() to g;
    call third() to y;
    if x < 0 {
        tell x;
    }
    if [not x <= y and [x == 1 or not not y != -2]] {
    } else {
        return (1 / 0);
    }
    if not [x < 1 or 1 < x] {
        check x == 1;
    } else {
        need 0 <= 0;
        while not not not x < y {
            while -1 < (x + y) {
                if x == x {
                    if x != x {
                    }
                } else {
                    while x < 1 {
                    }
                }
            }
            x = 1;
        }
    }
    tell -7;
}
proc second(a, c, b) {
}
proc third() {
    return 1;
}
proc fourth(x) {
    x = x;
}
"""


def statement_text(statement):
    """The lines of one statement, without the blanks of the procedure's block."""
    lines = write(((), (("main", (), (statement,)),))).split("\n")
    assert lines[0] == "proc main() {" and lines[-2:] == ["}", ""]
    assert all(line.startswith("    ") for line in lines[1:-2])
    return "\n".join(line[4:] for line in lines[1:-2])


def expression_text(expression):
    text = statement_text(("tell", expression))
    assert text.startswith("tell ") and text.endswith(";")
    return text[5:-1]


def condition_text(condition):
    text = statement_text(("need", condition))
    assert text.startswith("need ") and text.endswith(";")
    return text[5:-1]


class Statements(unittest.TestCase):
    def test_each_simple_form(self):
        cases = (
            (("set", "x", ONE), "x = 1;"),
            (("set", "long_name_12", Y), "long_name_12 = y;"),
            (("ask", "x"), "ask x;"),
            (("tell", X), "tell x;"),
            (("check", X_BELOW_ONE), "check x < 1;"),
            (("need", ONE_IS_Y), "need 1 == y;"),
            (("return", X), "return x;"),
            (("return", ("op", "+", X, ONE)), "return (x + 1);"),
        )
        for statement, wanted in cases:
            with self.subTest(wanted):
                self.assertEqual(statement_text(statement), wanted)

    def test_calls(self):
        cases = (
            (("call", "f", (), None), "call f();"),
            (("call", "f", (), "x"), "call f() to x;"),
            (("call", "f", (X,), None), "call f(x);"),
            (("call", "f", (("number", -3),), "y"), "call f(-3) to y;"),
            (("call", "f", (X, ONE, Y), None), "call f(x, 1, y);"),
            (("call", "f", (("op", "*", X, Y), ONE), "f"), "call f((x * y), 1) to f;"),
        )
        for statement, wanted in cases:
            with self.subTest(wanted):
                self.assertEqual(statement_text(statement), wanted)

    def test_if(self):
        one = (("ask", "x"),)
        two = (("ask", "x"), ("ask", "y"))
        cases = (
            (((), ()), "if x < 1 {\n}"),
            ((one, ()), "if x < 1 {\n    ask x;\n}"),
            (((), one), "if x < 1 {\n} else {\n    ask x;\n}"),
            ((two, one), "if x < 1 {\n    ask x;\n    ask y;\n} else {\n    ask x;\n}"),
        )
        for blocks, wanted in cases:
            with self.subTest(wanted):
                self.assertEqual(statement_text(("if", X_BELOW_ONE, *blocks)), wanted)

    def test_while(self):
        self.assertEqual(statement_text(("while", X_BELOW_ONE, ())), "while x < 1 {\n}")
        block = (("ask", "x"), ("tell", X))
        wanted = "while 1 == y {\n    ask x;\n    tell x;\n}"
        self.assertEqual(statement_text(("while", ONE_IS_Y, block)), wanted)

    def test_blocks_in_blocks(self):
        inner = ("if", X_BELOW_ONE, (("ask", "x"),), (("while", ONE_IS_Y, ()), ("ask", "y")))
        statement = ("while", X_BELOW_ONE, (("if", ONE_IS_Y, (), (inner, ("tell", ONE))),))
        wanted = (
            "while x < 1 {\n"
            "    if 1 == y {\n"
            "    } else {\n"
            "        if x < 1 {\n"
            "            ask x;\n"
            "        } else {\n"
            "            while 1 == y {\n"
            "            }\n"
            "            ask y;\n"
            "        }\n"
            "        tell 1;\n"
            "    }\n"
            "}"
        )
        self.assertEqual(statement_text(statement), wanted)

    def test_an_if_in_a_second_block_keeps_its_own_lines(self):
        inner = ("if", ONE_IS_Y, (), ())
        wanted = "if x < 1 {\n} else {\n    if 1 == y {\n    }\n}"
        self.assertEqual(statement_text(("if", X_BELOW_ONE, (), (inner,))), wanted)


class Parts(unittest.TestCase):
    def test_numbers(self):
        for n in (0, 1, 9, 10, 10000):
            self.assertEqual(expression_text(("number", n)), str(n))
        for n in (1, 10, 10000):
            self.assertEqual(expression_text(("number", -n)), "-" + str(n))

    def test_operations(self):
        for sign in ("+", "-", "*", "/", "mod"):
            self.assertEqual(expression_text(("op", sign, X, ONE)), f"(x {sign} 1)")
            self.assertEqual(expression_text(("op", sign, ONE, X)), f"(1 {sign} x)")

    def test_negative_numbers_in_operations(self):
        minus = ("number", -5)
        self.assertEqual(expression_text(("op", "-", minus, minus)), "(-5 - -5)")
        self.assertEqual(expression_text(("op", "+", X, minus)), "(x + -5)")

    def test_brackets_in_brackets(self):
        left = ("op", "*", ("op", "-", X, ONE), Y)
        right = ("op", "/", X, ("op", "mod", ONE, left))
        self.assertEqual(expression_text(left), "((x - 1) * y)")
        self.assertEqual(expression_text(("op", "+", left, right)), "(((x - 1) * y) + (x / (1 mod ((x - 1) * y))))")

    def test_relations(self):
        for relation in ("<", "<=", "==", "!="):
            self.assertEqual(condition_text(("compare", relation, X, ONE)), f"x {relation} 1")
        wide = ("compare", "<", ("op", "+", X, ONE), ("number", -1))
        self.assertEqual(condition_text(wide), "(x + 1) < -1")

    def test_not(self):
        condition = X_BELOW_ONE
        for many in range(1, 13):
            condition = ("not", condition)
            self.assertEqual(condition_text(condition), "not " * many + "x < 1")

    def test_and_and_or(self):
        both = ("and", X_BELOW_ONE, ONE_IS_Y)
        either = ("or", ONE_IS_Y, X_BELOW_ONE)
        self.assertEqual(condition_text(both), "[x < 1 and 1 == y]")
        self.assertEqual(condition_text(either), "[1 == y or x < 1]")
        self.assertEqual(condition_text(("or", both, either)), "[[x < 1 and 1 == y] or [1 == y or x < 1]]")
        self.assertEqual(condition_text(("not", both)), "not [x < 1 and 1 == y]")
        self.assertEqual(
            condition_text(("and", ("not", X_BELOW_ONE), ("not", ("not", either)))),
            "[not x < 1 and not not [1 == y or x < 1]]",
        )


class Programs(unittest.TestCase):
    def test_the_empty_program(self):
        self.assertEqual(write(((), ())), "")

    def test_globals(self):
        self.assertEqual(write((("g",), ())), "global g;\n")
        self.assertEqual(write((("h", "g"), ())), "global h;\nglobal g;\n")

    def test_empty_procedures(self):
        self.assertEqual(write(((), (("main", (), ()),))), "proc main() {\n}\n")
        self.assertEqual(write(((), (("f", ("a",), ()),))), "proc f(a) {\n}\n")
        self.assertEqual(write(((), (("f", ("b", "a", "c"), ()),))), "proc f(b, a, c) {\n}\n")

    def test_globals_and_procedures(self):
        program = (("g",), (("f", ("a",), (("ask", "a"),)), ("main", (), ())))
        self.assertEqual(write(program), "global g;\nproc f(a) {\n    ask a;\n}\nproc main() {\n}\n")

    def test_the_example_of_the_document(self):
        self.assertEqual(write(parse(EXAMPLE)), EXAMPLE)

    def test_every_form(self):
        self.assertEqual(write(parse(EVERY_FORM)), EVERY_FORM)

    def test_the_layout_of_a_text_does_not_matter(self):
        for text in (EXAMPLE, EVERY_FORM):
            self.assertEqual(write(parse(" \n " + text.replace(" ", "\n\n") + "\n\n")), text)
            self.assertEqual(write(parse(text.replace("\n", "  ").replace("-", "- "))), text)

    def test_braces_twelve_deep(self):
        text = ""
        for depth in range(11):
            text += "    " * (depth + 1) + "while x < 1 {\n"
        for depth in range(11, 0, -1):
            text += "    " * depth + "}\n"
        text = "proc f(x) {\n" + text + "}\n"
        self.assertEqual(write(parse(text)), text)

    def test_parse_makes_the_program_of_the_text(self):
        for number in range(300):
            program = made_program(number)
            with self.subTest(number):
                self.assertEqual(parse(write(program)), program)


def laid_out(text):
    """The text of the tokens of another one, laid out in the words of point 7."""
    stream = tokens(text)
    values = [str(value) for _, value, _, _ in stream]
    lines = [""]
    depth = 0
    for at, value in enumerate(values):
        before = values[at - 1] if at > 0 else ""
        if value == "}":
            depth -= 1
        if lines[-1] == "":
            lines[-1] = "    " * depth
        elif value in (";", ",", ")", "]") or before in ("(", "["):
            pass
        elif value == "(" and values[at - 2] in ("proc", "call"):
            pass
        elif before == "-" and not is_end(stream[at - 2]):
            pass
        else:
            lines[-1] += " "
        lines[-1] += value
        if value == "{":
            depth += 1
        if value in (";", "{") or value == "}" and values[at + 1:at + 2] != ["else"]:
            lines.append("")
    return "\n".join(lines)


def is_end(token):
    """Whether an expression can end with this token."""
    kind, value = token[:2]
    words = "tell return check need if while not and or mod".split()
    return kind == "number" or value == ")" or kind == "word" and value not in words


class Blanks(unittest.TestCase):
    def test_the_written_out_texts(self):
        for text in (EXAMPLE, EVERY_FORM):
            self.assertEqual(laid_out(text), text)

    def test_made_programs(self):
        for number in range(300):
            text = write(made_program(number))
            with self.subTest(number):
                self.assertEqual(text, laid_out(text))


if __name__ == "__main__":
    unittest.main()
