"""Points 4 and 6: the place of the first token that cannot stand where it stands."""

import unittest

from carryclaim.errors import SyntaxProblem
from carryclaim.lexer import tokens
from carryclaim.parser import parse
from tests.grammar import GRAMMAR, Grammar

# Rows of tokens, divided by blanks, that use every part of every rule.
TEXTS = (
    "",
    "global g ; global h ; proc main ( ) { } proc f ( a ) { } proc f ( a , b , c ) { ask a ; }",
    "proc f ( ) { x = 0 ; x = - 7 ; x = y ; tell ( ( 1 + x ) mod ( - 2 / ( y * ( z - 3 ) ) ) ) ; }",
    "proc f ( ) { ask x ; return - 1 ; check x < 1 ; need ( 1 + x ) <= - 1 ; check 1 == y ; need x != y ; }",
    "proc f ( ) { if x < y { tell 1 ; } if x < y { } else { ask x ; } while 0 < x { } x = 1 ; }",
    "proc f ( ) { while not [ not not x < 1 and [ 1 < 2 or - 1 == ( x + 1 ) ] ] { return 1 ; } }",
    "proc f ( ) { call f ( ) ; call f ( 1 ) ; call f ( x , - 1 , ( x + y ) ) to g ; call g ( ) to f ; }",
    "global a ; proc f ( a ) { if [ a < 1 or a < 2 ] { while a < 3 { if a < 4 { } else { } } } else { } }",
)
NAMES = ("x", "main", "in", "abcdefghijkl")
NUMBERS = ("0", "10000")
RESERVED = (
    "global proc ask tell check need return if else while call to mod not and or"
).split()
# An error of point 3 stands nowhere.
WRONG = ("!", "01", "10001", "abcdefghijklm", "X", "_", "?")


def place(text):
    """The line and the column of the SyntaxProblem of a text."""
    try:
        parse(text)
    except SyntaxProblem as problem:
        return (problem.line, problem.column)
    return None


def symbol_of(grammar, word):
    """What the grammar calls a token."""
    if word in grammar.terminals:
        return word
    if word in NUMBERS or word.isdigit() and word not in WRONG:
        return "number"
    if word in WRONG:
        return "error"
    return "name"


def laid_out(words):
    """A text of the words in lines of four, and the places of all words."""
    text = ""
    spots = []
    line, column = 1, 1
    for at, word in enumerate(words):
        spots.append((line, column))
        text += word
        column += len(word)
        if at % 4 == 3:
            text += "\n"
            line, column = line + 1, 1
        else:
            text += " "
            column += 1
    return text, spots, (line, column)


class AgainstTheGrammar(unittest.TestCase):
    """Every token in every place of the texts, against the rules of the document."""

    @classmethod
    def setUpClass(cls):
        cls.grammar = Grammar(GRAMMAR)
        cls.rows = []
        for text in TEXTS:
            words = text.split()
            symbols = [symbol_of(cls.grammar, word) for word in words]
            cls.rows.append((words, cls.grammar.allowed(symbols)))

    def test_the_texts_are_programs(self):
        for words, allowed in self.rows:
            self.assertIn("end", allowed[-1])
            self.assertIsNone(place(" ".join(words)))

    def test_the_texts_reach_every_part_of_the_grammar(self):
        used = {symbol_of(self.grammar, word) for words, _ in self.rows for word in words}
        self.assertEqual(used, set(self.grammar.terminals))

    def test_each_token_in_each_place(self):
        others = [t for t in self.grammar.terminals if t not in ("name", "number")]
        others += NAMES + NUMBERS + WRONG
        for words, allowed in self.rows:
            for at in range(len(words) + 1):
                for other in others:
                    text, spots, _ = laid_out(words[:at] + [other] + words[at + 1:])
                    found = place(text)
                    if symbol_of(self.grammar, other) not in allowed[at]:
                        self.assertEqual(found, spots[at], text)
                    elif found is not None:
                        self.assertGreater(found, spots[at], text)

    def test_texts_that_end_too_early(self):
        for words, allowed in self.rows:
            for at in range(len(words) + 1):
                text, _, end = laid_out(words[:at])
                wanted = None if "end" in allowed[at] else end
                self.assertEqual(place(text), wanted, text)

    def test_what_follows_a_wrong_token_does_not_matter(self):
        for words, allowed in self.rows:
            for at in range(len(words)):
                for other in ("else", "?", ")"):
                    if other not in allowed[at]:
                        for rest in ([], ["01"], ["}"], words[at:]):
                            text, spots, _ = laid_out(words[:at] + [other] + rest)
                            self.assertEqual(place(text), spots[at], text)


class WrittenOut(unittest.TestCase):
    def assert_places(self, cases):
        for text, wanted in cases.items():
            with self.subTest(text):
                self.assertEqual(place(text), wanted)

    def test_the_attributes(self):
        with self.assertRaises(SyntaxProblem) as caught:
            parse("global g;\n  oops")
        self.assertEqual((caught.exception.line, caught.exception.column), (2, 3))

    def test_programs(self):
        self.assert_places({
            "x": (1, 1),
            ";": (1, 1),
            "7": (1, 1),
            "global ;": (1, 8),
            "global 7;": (1, 8),
            "global a global b;": (1, 10),
            "global a, b;": (1, 9),
            "global a; x": (1, 11),
            "proc f() {} global g;": (1, 13),
            "proc f() {} }": (1, 13),
            "proc f() {} f": (1, 13),
        })

    def test_procedures(self):
        self.assert_places({
            "proc (": (1, 6),
            "proc f {}": (1, 8),
            "proc f(,) {}": (1, 8),
            "proc f(1) {}": (1, 8),
            "proc f(a b) {}": (1, 10),
            "proc f(a,) {}": (1, 10),
            "proc f(a;b) {}": (1, 9),
            "proc f() ask": (1, 10),
            "proc f() proc": (1, 10),
        })

    def test_statements(self):
        self.assert_places({
            "proc f() { ; }": (1, 12),
            "proc f() { 1 }": (1, 12),
            "proc f() { { } }": (1, 12),
            "proc f() { x == 1; }": (1, 14),
            "proc f() { x; }": (1, 13),
            "proc f() { x = ; }": (1, 16),
            "proc f() { x = 1 }": (1, 18),
            "proc f() { x = 1 + 2; }": (1, 18),
            "proc f() { x = y < 2; }": (1, 18),
            "proc f() { ask 1; }": (1, 16),
            "proc f() { ask x, y; }": (1, 17),
            "proc f() { tell; }": (1, 16),
            "proc f() { tell x < 1; }": (1, 19),
            "proc f() { return; }": (1, 18),
            "proc f() { check x; }": (1, 19),
            "proc f() { need 1 < 2 }": (1, 23),
            "proc f() { proc g() {} }": (1, 12),
            "proc f() { global g; }": (1, 12),
            "proc f() { else {} }": (1, 12),
        })

    def test_blocks(self):
        self.assert_places({
            "proc f() { if x < 1 ask x; }": (1, 21),
            "proc f() { if x < 1 { }; }": (1, 24),
            "proc f() { if x < 1 { } else ask x; }": (1, 30),
            "proc f() { if x < 1 { } else if x < 2 { } }": (1, 30),
            "proc f() { if x < 1 { } else { } else { } }": (1, 34),
            "proc f() { while x < 1 { } else { } }": (1, 28),
            "proc f() { while { } }": (1, 18),
            "proc f() { if x < 1 { } x = 1; else { } }": (1, 32),
        })

    def test_calls(self):
        self.assert_places({
            "proc f() { call ();": (1, 17),
            "proc f() { call f; }": (1, 18),
            "proc f() { call f(,); }": (1, 19),
            "proc f() { call f(1,); }": (1, 21),
            "proc f() { call f(1 2); }": (1, 21),
            "proc f() { call f(1 < 2); }": (1, 21),
            "proc f() { call f() x; }": (1, 21),
            "proc f() { call f() to 1; }": (1, 24),
            "proc f() { call f() to x y; }": (1, 26),
        })

    def test_expressions(self):
        self.assert_places({
            "proc f() { tell - x; }": (1, 19),
            "proc f() { tell --1; }": (1, 18),
            "proc f() { tell -(1 + 2); }": (1, 18),
            "proc f() { tell +1; }": (1, 17),
            "proc f() { tell (x); }": (1, 19),
            "proc f() { tell (x + y + z); }": (1, 24),
            "proc f() { tell (x < y); }": (1, 20),
            "proc f() { tell (x and y); }": (1, 20),
            "proc f() { tell (x mod); }": (1, 23),
            "proc f() { tell (x + y]; }": (1, 23),
            "proc f() { tell not x; }": (1, 17),
        })

    def test_conditions(self):
        self.assert_places({
            "proc f() { need x = 1; }": (1, 19),
            "proc f() { need x + 1; }": (1, 19),
            "proc f() { need not; }": (1, 20),
            "proc f() { need x < not y; }": (1, 21),
            "proc f() { need x < y < z; }": (1, 23),
            "proc f() { need x < y and x < z; }": (1, 23),
            "proc f() { need [x < y]; }": (1, 23),
            "proc f() { need [x < y and x < z or x < u]; }": (1, 34),
            "proc f() { need [x < y + x < z]; }": (1, 24),
            "proc f() { need [x < y and x < z); }": (1, 33),
            "proc f() { need (x < y); }": (1, 20),
        })

    def test_errors_of_tokens(self):
        self.assert_places({
            "?": (1, 1),
            "global g?;": (1, 9),
            "global 01;": (1, 8),
            "global abcdefghijklm;": (1, 8),
            "proc f() {\n  x = 10001;\n}": (2, 7),
            "proc f() { tell -10001; }": (1, 18),
            "proc f() { x ! 1; }": (1, 14),
            "proc f() {} ?": (1, 13),
            "proc f() {}\n\n  A": (3, 3),
        })

    def test_an_error_of_a_token_behind_and_ahead_of_a_wrong_token(self):
        self.assert_places({
            "global ; ?": (1, 8),
            "proc f() { else 01 }": (1, 12),
            "proc f() { ? else }": (1, 12),
            "proc f() {\n} }\n?": (2, 3),
            "proc f() {\n? } }": (2, 1),
        })

    def test_texts_that_end_too_early(self):
        self.assert_places({
            "global": (1, 7),
            "global ": (1, 8),
            "global   ": (1, 10),
            "global\n": (2, 1),
            "global\n  ": (2, 3),
            "global\n\n\n": (4, 1),
            "\n global g": (2, 10),
            "proc": (1, 5),
            "proc f(": (1, 8),
            "proc f() {": (1, 11),
            "proc f() {\n": (2, 1),
            "proc f() {\n    x = 1;\n": (3, 1),
            "proc f() { if 1 < 2 {": (1, 22),
            "proc f() { x = (1 +": (1, 20),
            "proc f() { need not": (1, 20),
            "proc f() { call f() to": (1, 23),
        })


class Names(unittest.TestCase):
    def test_reserved_words_where_a_name_must_stand(self):
        texts = {
            "global {};": 8,
            "proc {}() {}": 6,
            "proc f({}) {}": 8,
            "proc f(a, {}) {}": 11,
            "proc f() { ask {}; }": 16,
            "proc f() { call {}(); }": 17,
            "proc f() { call f() to {}; }": 24,
            "proc f() { tell {}; }": 17,
            "proc f() { tell (1 + {}); }": 22,
            "proc f() { check x < {}; }": 22,
        }
        for text, column in texts.items():
            for word in RESERVED:
                with self.subTest(text, word=word):
                    self.assertEqual(place(text.replace("{}", word, 1)), (1, column))

    def test_a_reserved_word_is_not_set(self):
        for word in ("global", "proc", "else", "to", "mod", "not", "and", "or"):
            with self.subTest(word):
                self.assertEqual(place("proc f() { " + word + " = 1; }"), (1, 12))
        for word in ("ask", "tell", "check", "need", "return", "if", "while", "call"):
            with self.subTest(word):
                self.assertEqual(place("proc f() { " + word + " = 1; }"), (1, 13 + len(word)))


class Limits(unittest.TestCase):
    def test_braces_twelve_deep(self):
        text = "proc f() {" + "while 0 < 1 {" * 11 + "ask x;" + "}" * 12
        block = (("ask", "x"),)
        for _ in range(11):
            block = (("while", ("compare", "<", ("number", 0), ("number", 1)), block),)
        self.assertEqual(parse(text), ((), (("f", (), block),)))

    def test_parentheses_twelve_deep(self):
        text = "proc f() { tell " + "(1+" * 11 + "x" + ")" * 11 + "; }"
        expression = ("name", "x")
        for _ in range(11):
            expression = ("op", "+", ("number", 1), expression)
        self.assertEqual(parse(text), ((), (("f", (), (("tell", expression),)),)))

    def test_not_twelve_times_in_each_of_the_brackets(self):
        text = "not " * 12 + "[" + "not " * 12 + "1 < 2 and "
        condition = ("compare", "<", ("number", 1), ("number", 2))
        for _ in range(12):
            condition = ("not", condition)
        first = condition
        for _ in range(11):
            condition = ("and", first, condition)
            for _ in range(12):
                condition = ("not", condition)
        text = "proc f() { need " + text * 11 + "not " * 12 + "1 < 2" + "]" * 11 + "; }"
        self.assertEqual(parse(text), ((), (("f", (), (("need", condition),)),)))

    def test_a_thousand_tokens(self):
        text = "proc f() {" + "\nx = 1;" * 247 + "\nask y;\nask z; }"
        self.assertEqual(len(tokens(text)), 1000)
        wanted = (("set", "x", ("number", 1)),) * 247 + (("ask", "y"), ("ask", "z"))
        self.assertEqual(parse(text), ((), (("f", (), wanted),)))
        self.assertEqual(place(text + "\n}"), (251, 1))
        self.assertEqual(place(text[:-1]), (250, 8))

    def test_somewhat_beyond_the_limits(self):
        self.assertIsNone(place("proc f() {" + "if 0 < 1 {" * 30 + "}" * 31))
        self.assertIsNone(place("proc f() { tell " + "(" * 30 + "x" + "+1)" * 30 + "; }"))
        self.assertIsNone(place("proc f() { need " + "not " * 40 + "1 < 2; }"))
        self.assertIsNone(place("proc f() { need " + "[1 < 2 or " * 30 + "1 < 2" + "]" * 30 + "; }"))
        self.assertIsNone(place("proc f() { " + "ask x; " * 700 + "}"))


if __name__ == "__main__":
    unittest.main()
