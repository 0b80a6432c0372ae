"""Points 4 and 5: what parse returns for texts of the grammar."""

import unittest

from carryclaim.parser import parse


def statements(text):
    """The block of a procedure with these statements."""
    global_names, procedures = parse("proc main() {" + text + "}")
    assert global_names == () and len(procedures) == 1
    return procedures[0][2]


def expression(text):
    """The expression of this text."""
    (statement,) = statements("tell " + text + ";")
    return statement[1]


def condition(text):
    """The condition of this text."""
    (statement,) = statements("need " + text + ";")
    return statement[1]


X = ("name", "x")
Y = ("name", "y")
X_BELOW_Y = ("compare", "<", X, Y)


class Programs(unittest.TestCase):
    def test_empty_texts(self):
        for text in ("", " ", "\n", " \n  \n"):
            with self.subTest(text):
                self.assertEqual(parse(text), ((), ()))

    def test_globals(self):
        self.assertEqual(parse("global g;"), (("g",), ()))
        self.assertEqual(parse("global b;global a;global b;"), (("b", "a", "b"), ()))

    def test_procedures(self):
        self.assertEqual(parse("proc f(){}"), ((), (("f", (), ()),)))
        self.assertEqual(parse("proc f(a) { }"), ((), (("f", ("a",), ()),)))
        wanted = ((), (("f", ("c", "a", "b"), ()), ("f", (), (("ask", "x"),))))
        self.assertEqual(parse("proc f(c, a, b) {} proc f() { ask x; }"), wanted)

    def test_globals_and_procedures(self):
        self.assertEqual(parse("global g; proc main() {}"), (("g",), (("main", (), ()),)))

    def test_words_of_the_document_that_are_not_reserved_are_names(self):
        for word in ("main", "in", "out", "number", "name", "set", "compare", "op", "never", "result"):
            with self.subTest(word):
                text = f"global {word}; proc {word}({word}) {{ {word} = {word}; }}"
                block = (("set", word, ("name", word)),)
                self.assertEqual(parse(text), ((word,), ((word, (word,), block),)))

    def test_the_example_of_the_document(self):
        text = (
            "global g;\nproc main() {\n    ask x;\n    need 0 < x;\n    while g < 10 {\n"
            "        g = (g + 2);\n    }\n    check g == 10;\n    tell (100 / x);\n}\n"
        )
        block = (
            ("ask", "x"),
            ("need", ("compare", "<", ("number", 0), ("name", "x"))),
            (
                "while",
                ("compare", "<", ("name", "g"), ("number", 10)),
                (("set", "g", ("op", "+", ("name", "g"), ("number", 2))),),
            ),
            ("check", ("compare", "==", ("name", "g"), ("number", 10))),
            ("tell", ("op", "/", ("number", 100), ("name", "x"))),
        )
        self.assertEqual(parse(text), (("g",), (("main", (), block),)))

    def test_spacing_does_not_matter(self):
        tight = "global g;proc f(a,b){if[a<b and not a==1]{g=(a- -2);}else{call f(g,-3)to g;}}"
        wide = " ".join(
            "global g ; proc f ( a , b ) { if [ a < b and not a == 1 ] { g = ( a - - 2 ) ; }"
            " else { call f ( g , - 3 ) to g ; } }".split()
        )
        self.assertEqual(parse(tight), parse(wide))
        self.assertEqual(parse(tight), parse(wide.replace(" ", "\n") + "\n\n"))


class Statements(unittest.TestCase):
    def test_set(self):
        self.assertEqual(statements("x = y;"), (("set", "x", Y),))

    def test_ask(self):
        self.assertEqual(statements("ask x;"), (("ask", "x"),))

    def test_tell(self):
        self.assertEqual(statements("tell x;"), (("tell", X),))

    def test_check(self):
        self.assertEqual(statements("check x < y;"), (("check", X_BELOW_Y),))

    def test_need(self):
        self.assertEqual(statements("need x < y;"), (("need", X_BELOW_Y),))

    def test_return(self):
        self.assertEqual(statements("return x;"), (("return", X),))

    def test_if(self):
        self.assertEqual(statements("if x < y { ask x; }"), (("if", X_BELOW_Y, (("ask", "x"),), ()),))
        self.assertEqual(statements("if x < y { }"), (("if", X_BELOW_Y, (), ()),))

    def test_else(self):
        wanted = (("if", X_BELOW_Y, (("ask", "x"),), (("ask", "y"),)),)
        self.assertEqual(statements("if x < y { ask x; } else { ask y; }"), wanted)
        wanted = (("if", X_BELOW_Y, (), (("ask", "y"), ("ask", "x"))),)
        self.assertEqual(statements("if x < y { } else { ask y; ask x; }"), wanted)

    def test_an_empty_else_is_as_none(self):
        wanted = (("if", X_BELOW_Y, (("ask", "x"),), ()),)
        self.assertEqual(statements("if x < y { ask x; } else { }"), wanted)
        self.assertEqual(statements("if x < y {} else {}"), (("if", X_BELOW_Y, (), ()),))

    def test_an_else_belongs_to_the_block_before_it(self):
        inner = ("if", X_BELOW_Y, (), (("ask", "x"),))
        outer = ("if", X_BELOW_Y, (inner,), (("ask", "y"),))
        self.assertEqual(statements("if x < y { if x < y { } else { ask x; } } else { ask y; }"), (outer,))

    def test_while(self):
        self.assertEqual(statements("while x < y { ask x; }"), (("while", X_BELOW_Y, (("ask", "x"),)),))
        self.assertEqual(statements("while x < y {}"), (("while", X_BELOW_Y, ()),))

    def test_call(self):
        self.assertEqual(statements("call f();"), (("call", "f", (), None),))
        self.assertEqual(statements("call f(x);"), (("call", "f", (X,), None),))
        wanted = (("call", "f", (Y, ("number", -1), X), None),)
        self.assertEqual(statements("call f(y, -1, x);"), wanted)

    def test_call_with_a_target(self):
        self.assertEqual(statements("call f() to x;"), (("call", "f", (), "x"),))
        self.assertEqual(statements("call f(x, y) to f;"), (("call", "f", (X, Y), "f"),))

    def test_statements_keep_their_order(self):
        wanted = (("ask", "b"), ("ask", "a"), ("ask", "b"))
        self.assertEqual(statements("ask b; ask a; ask b;"), wanted)

    def test_nested_blocks(self):
        wanted = (("while", X_BELOW_Y, (("while", X_BELOW_Y, (("while", X_BELOW_Y, ()),)), ("ask", "x"))),)
        self.assertEqual(statements("while x < y { while x < y { while x < y {} } ask x; }"), wanted)


class Expressions(unittest.TestCase):
    def test_numbers(self):
        self.assertEqual(expression("0"), ("number", 0))
        self.assertEqual(expression("10000"), ("number", 10000))

    def test_negative_numbers(self):
        self.assertEqual(expression("-5"), ("number", -5))
        self.assertEqual(expression("- 5"), ("number", -5))
        self.assertEqual(expression("-\n10000"), ("number", -10000))
        self.assertEqual(expression("- 0"), ("number", 0))
        self.assertEqual(str(expression("-0")[1]), "0")

    def test_names(self):
        self.assertEqual(expression("x"), X)

    def test_each_operation(self):
        for sign in ("+", "-", "*", "/", "mod"):
            with self.subTest(sign):
                self.assertEqual(expression(f"(x {sign} y)"), ("op", sign, X, Y))

    def test_minus_beside_minus(self):
        self.assertEqual(expression("(5-3)"), ("op", "-", ("number", 5), ("number", 3)))
        self.assertEqual(expression("(-5- -3)"), ("op", "-", ("number", -5), ("number", -3)))
        self.assertEqual(expression("(x--3)"), ("op", "-", X, ("number", -3)))

    def test_nested_operations(self):
        wanted = ("op", "*", ("op", "+", X, ("number", 1)), ("op", "mod", Y, ("number", -2)))
        self.assertEqual(expression("((x + 1) * (y mod -2))"), wanted)


class Conditions(unittest.TestCase):
    def test_each_relation(self):
        for relation in ("<", "<=", "==", "!="):
            with self.subTest(relation):
                self.assertEqual(condition(f"x {relation} y"), ("compare", relation, X, Y))

    def test_relation_of_operations(self):
        wanted = ("compare", "<=", ("op", "+", X, Y), ("number", -1))
        self.assertEqual(condition("(x+y)<=-1"), wanted)

    def test_not(self):
        self.assertEqual(condition("not x < y"), ("not", X_BELOW_Y))
        self.assertEqual(condition("not not x < y"), ("not", ("not", X_BELOW_Y)))

    def test_and_or(self):
        other = ("compare", "==", Y, X)
        self.assertEqual(condition("[x < y and y == x]"), ("and", X_BELOW_Y, other))
        self.assertEqual(condition("[x < y or y == x]"), ("or", X_BELOW_Y, other))

    def test_nested_conditions(self):
        wanted = ("not", ("and", ("or", X_BELOW_Y, ("not", X_BELOW_Y)), ("not", ("not", X_BELOW_Y))))
        self.assertEqual(condition("not [[x < y or not x < y] and not not x < y]"), wanted)


class Results(unittest.TestCase):
    def test_all_collections_are_tuples(self):
        text = (
            "global g; proc f(a, b) { g = (a + -1); ask b; tell a; check a < b; need not a == b;"
            " if [a < b or a != b] { return 1; } else { while a <= b { call f(a, 2) to g; } } }"
        )
        self.assert_plain(parse(text))

    def assert_plain(self, value):
        if value is None:
            return
        self.assertIn(type(value), (tuple, str, int))
        if type(value) is tuple:
            for part in value:
                self.assert_plain(part)

    def test_a_second_reading_gives_the_same(self):
        text = "proc main() { x = 1; }"
        self.assertEqual(parse(text), parse(text))


if __name__ == "__main__":
    unittest.main()
