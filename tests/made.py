"""Programs that are made from a number: the same number makes the same program.

All of them pass check_program and keep to the limits of point 6; together
they have every form of statement, expression and condition.
"""

import random

SIGNS = ("+", "-", "*", "/", "mod")
RELATIONS = ("<", "<=", "==", "!=")
GLOBALS = ("g", "b9", "in", "out", "result", "z_")
PROCEDURES = ("f", "main2", "op", "a")
PARAMETERS = ("x", "c", "a", "p_1")
LOCALS = ("y", "b", "number", "d4")


class Maker:
    def __init__(self, number):
        self.chance = random.Random(number)
        self.global_names = tuple(self.chance.sample(GLOBALS, self.chance.randint(0, 3)))
        self.heads = [("main", ())]
        for name in self.chance.sample(PROCEDURES, self.chance.randint(0, 3)):
            self.heads.append((name, tuple(self.chance.sample(PARAMETERS, self.chance.randint(0, 3)))))
        self.chance.shuffle(self.heads)
        self.names = ()
        self.left = 0

    def program(self):
        return (self.global_names, tuple(self.procedure(*head) for head in self.heads))

    def procedure(self, name, parameters):
        self.names = self.global_names + parameters + LOCALS[:self.chance.randint(0, 4)]
        self.left = self.chance.randint(0, 14)
        block = self.block(3)
        # A name that is used and not changed is no variable: it is asked or set first.
        strange = sorted(used_names(block) - changed_names(block) - {*self.global_names, *parameters})
        first = [self.chance.choice((("ask", word), ("set", word, self.number()))) for word in strange]
        return (name, parameters, (*first, *block))

    def block(self, depth):
        statements = []
        while self.left > 0 and self.chance.random() < 0.85:
            self.left -= 1
            statements.append(self.statement(depth))
        return tuple(statements)

    def statement(self, depth):
        words = ["set", "ask", "tell", "check", "need", "call", "set", "tell", "return"]
        if depth > 0:
            words += ["if", "while", "if", "while"]
        word = self.chance.choice(words)
        if word == "call":
            return self.call()
        if word in ("set", "ask") and not self.names:
            word = "tell"
        if word == "set":
            return (word, self.chance.choice(self.names), self.expression(2))
        if word == "ask":
            return (word, self.chance.choice(self.names))
        if word in ("tell", "return"):
            return (word, self.expression(3))
        if word == "if":
            return (word, self.condition(2), self.block(depth - 1), self.block(depth - 1))
        if word == "while":
            return (word, self.condition(2), self.block(depth - 1))
        return (word, self.condition(2))

    def call(self):
        name, parameters = self.chance.choice(self.heads)
        target = self.chance.choice((None, *self.names))
        return ("call", name, tuple(self.expression(2) for _ in parameters), target)

    def number(self):
        if self.chance.random() < 0.1:
            return ("number", self.chance.choice((-10000, -9999, 9999, 10000, 100, -100)))
        return ("number", self.chance.randint(-4, 6))

    def expression(self, depth):
        choice = self.chance.random()
        if depth > 0 and choice < 0.4:
            sign = self.chance.choice(SIGNS)
            return ("op", sign, self.expression(depth - 1), self.expression(depth - 1))
        if self.names and choice < 0.75:
            return ("name", self.chance.choice(self.names))
        return self.number()

    def condition(self, depth):
        choice = self.chance.random()
        if choice < 0.2:
            return ("not", self.condition(depth))
        if depth > 0 and choice < 0.5:
            word = self.chance.choice(("and", "or"))
            return (word, self.condition(depth - 1), self.condition(depth - 1))
        relation = self.chance.choice(RELATIONS)
        return ("compare", relation, self.expression(2), self.expression(1))


def used_names(part):
    """The names that stand in the expressions of a block, or of a part of it."""
    if isinstance(part, tuple) and part[:1] == ("name",):
        return {part[1]}
    if isinstance(part, tuple):
        return set().union(*(used_names(inner) for inner in part))
    return set()


def changed_names(block):
    """The names that are set, asked, or the target of a call in a block."""
    found = set()
    for statement in block:
        if statement[0] in ("set", "ask"):
            found.add(statement[1])
        elif statement[0] == "call" and statement[3] is not None:
            found.add(statement[3])
        elif statement[0] in ("if", "while"):
            for inner in statement[2:]:
                found |= changed_names(inner)
    return found


def made_program(number):
    return Maker(number).program()
