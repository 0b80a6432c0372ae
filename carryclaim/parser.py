"""Reads a program from its text (sections 4 to 6 of the document).

Each function read_.. takes the tokens of one rule of the grammar from a
TokenReader. In each state of a reading the next token alone decides what
follows, so the first token that no function takes is the first that cannot
stand where it stands.
"""

from carryclaim.errors import SyntaxProblem
from carryclaim.lexer import RESERVED_WORDS, tokens

STATEMENT_WORDS = ("ask", "tell", "check", "need", "return", "if", "while", "call")
OPERATIONS = ("+", "-", "*", "/", "mod")
RELATIONS = ("<", "<=", "==", "!=")
JOINING_WORDS = ("and", "or")


class TokenReader:
    """The tokens of a text, and the index of the one that is read next."""

    def __init__(self, text):
        # Behind the tokens stands an end at which a text that ends too early fails.
        line = text.count("\n") + 1
        column = len(text) - text.rfind("\n")
        self.stream = tokens(text) + (("end", "", line, column),)
        self.at = 0

    def kind(self):
        return self.stream[self.at][0]

    def value(self):
        return self.stream[self.at][1]

    def advance(self):
        """Go to the next token and return the value of the one that was passed."""
        passed = self.value()
        self.at += 1
        return passed

    def fail(self):
        place = self.stream[self.at]
        raise SyntaxProblem(place[2], place[3])

    def skip(self, wanted):
        """Tell whether the next token is this sign or word, and pass it if so."""
        if self.value() != wanted:
            return False
        self.at += 1
        return True

    def expect(self, wanted):
        if not self.skip(wanted):
            self.fail()

    def take_one_of(self, choices):
        if self.value() not in choices:
            self.fail()
        return self.advance()

    def sees_name(self):
        return self.kind() == "word" and self.value() not in RESERVED_WORDS

    def take_name(self):
        if not self.sees_name():
            self.fail()
        return self.advance()

    def take_number(self):
        if self.kind() != "number":
            self.fail()
        return self.advance()

    def expect_end(self):
        if self.kind() != "end":
            self.fail()


def parse(text):
    """Return the program of a text, or raise SyntaxProblem."""
    reader = TokenReader(text)
    global_names = []
    while reader.skip("global"):
        global_names.append(reader.take_name())
        reader.expect(";")
    procedures = []
    while reader.skip("proc"):
        procedures.append(read_procedure(reader))
    reader.expect_end()
    return (tuple(global_names), tuple(procedures))


def read_procedure(reader):
    name = reader.take_name()
    parameters = read_parameters(reader)
    return (name, parameters, read_block(reader))


def read_parameters(reader):
    reader.expect("(")
    if reader.skip(")"):
        return ()
    names = [reader.take_name()]
    while reader.skip(","):
        names.append(reader.take_name())
    reader.expect(")")
    return tuple(names)


def read_block(reader):
    reader.expect("{")
    statements = []
    while not reader.skip("}"):
        statements.append(read_statement(reader))
    return tuple(statements)


def read_statement(reader):
    if reader.sees_name():
        return read_set(reader)
    word = reader.take_one_of(STATEMENT_WORDS)
    if word == "if":
        return read_if(reader)
    if word == "while":
        return read_while(reader)
    if word == "call":
        return read_call(reader)
    if word == "ask":
        part = reader.take_name()
    elif word in ("check", "need"):
        part = read_condition(reader)
    else:
        part = read_expression(reader)
    reader.expect(";")
    return (word, part)


def read_set(reader):
    name = reader.take_name()
    reader.expect("=")
    expression = read_expression(reader)
    reader.expect(";")
    return ("set", name, expression)


def read_if(reader):
    condition = read_condition(reader)
    first = read_block(reader)
    second = ()
    if reader.skip("else"):
        second = read_block(reader)
    return ("if", condition, first, second)


def read_while(reader):
    condition = read_condition(reader)
    return ("while", condition, read_block(reader))


def read_call(reader):
    name = reader.take_name()
    expressions = read_call_expressions(reader)
    target = None
    if reader.skip("to"):
        target = reader.take_name()
    reader.expect(";")
    return ("call", name, expressions, target)


def read_call_expressions(reader):
    reader.expect("(")
    if reader.skip(")"):
        return ()
    expressions = [read_expression(reader)]
    while reader.skip(","):
        expressions.append(read_expression(reader))
    reader.expect(")")
    return tuple(expressions)


def read_expression(reader):
    if reader.skip("("):
        return read_operation(reader)
    if reader.skip("-"):
        return ("number", -reader.take_number())
    if reader.kind() == "number":
        return ("number", reader.take_number())
    return ("name", reader.take_name())


def read_operation(reader):
    """Read an operation whose opening parenthesis was passed."""
    left = read_expression(reader)
    sign = reader.take_one_of(OPERATIONS)
    right = read_expression(reader)
    reader.expect(")")
    return ("op", sign, left, right)


def read_condition(reader):
    # Counted in a loop, so that a row of nots makes no deep recursion.
    nots = 0
    while reader.skip("not"):
        nots += 1
    if reader.skip("["):
        condition = read_joined(reader)
    else:
        condition = read_comparison(reader)
    for _ in range(nots):
        condition = ("not", condition)
    return condition


def read_joined(reader):
    """Read two conditions and what joins them; the opening bracket was passed."""
    left = read_condition(reader)
    word = reader.take_one_of(JOINING_WORDS)
    right = read_condition(reader)
    reader.expect("]")
    return (word, left, right)


def read_comparison(reader):
    left = read_expression(reader)
    relation = reader.take_one_of(RELATIONS)
    right = read_expression(reader)
    return ("compare", relation, left, right)
