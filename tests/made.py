"""Programs that are made from a number: the same number makes the same program.

All of them pass check_program and keep to the limits of point 6; together
they have every form of statement, expression and condition.
"""

import random

from carryclaim.places import places

SIGNS = ("+", "-", "*", "/", "mod")
RELATIONS = ("<", "<=", "==", "!=")
GLOBALS = ("g", "b9", "in", "out", "result", "z_")
PROCEDURES = ("f", "main2", "op", "a")
PARAMETERS = ("x", "c", "a", "p_1")
LOCALS = ("y", "b", "number", "d4")


class Maker:
    WORDS = ("set", "ask", "tell", "check", "need", "call", "set", "tell", "return")
    BLOCK_WORDS = ("if", "while", "if", "while")

    def __init__(self, number):
        self.chance = random.Random(number)
        self.global_names = tuple(self.chance.sample(GLOBALS, self.chance.randint(0, 3)))
        self.heads = [("main", ())]
        for name in self.chance.sample(PROCEDURES, self.chance.randint(0, 3)):
            self.heads.append((name, tuple(self.chance.sample(PARAMETERS, self.chance.randint(0, 3)))))
        self.chance.shuffle(self.heads)
        self.names = ()
        self.left = 0

    def program(self):
        return (self.global_names, tuple(self.procedure(*head) for head in self.heads))

    def procedure(self, name, parameters):
        self.names = self.global_names + parameters + LOCALS[:self.chance.randint(0, 4)]
        self.left = self.chance.randint(0, 14)
        block = self.block(3)
        # A name that is used and not changed is no variable: it is asked or set first.
        strange = sorted(used_names(block) - changed_names(block) - {*self.global_names, *parameters})
        first = [self.chance.choice((("ask", word), ("set", word, self.number()))) for word in strange]
        return (name, parameters, (*first, *block))

    def block(self, depth):
        statements = []
        while self.left > 0 and self.chance.random() < 0.85:
            self.left -= 1
            statements.append(self.statement(depth))
        return tuple(statements)

    def statement(self, depth):
        word = self.chance.choice(self.WORDS if depth == 0 else self.WORDS + self.BLOCK_WORDS)
        if word == "call":
            return self.call()
        if word in ("set", "ask") and not self.names:
            word = "tell"
        if word == "set":
            return (word, self.chance.choice(self.names), self.expression(2))
        if word == "ask":
            return (word, self.chance.choice(self.names))
        if word in ("tell", "return"):
            return (word, self.expression(3))
        if word == "if":
            return (word, self.condition(2), self.block(depth - 1), self.block(depth - 1))
        if word == "while":
            return (word, self.condition(2), self.block(depth - 1))
        return (word, self.condition(2))

    def call(self):
        name, parameters = self.chance.choice(self.heads)
        target = self.chance.choice((None, *self.names))
        return ("call", name, tuple(self.expression(2) for _ in parameters), target)

    def number(self):
        if self.chance.random() < 0.1:
            return ("number", self.chance.choice((-10000, -9999, 9999, 10000, 100, -100)))
        return ("number", self.chance.randint(-4, 6))

    def expression(self, depth):
        choice = self.chance.random()
        if depth > 0 and choice < 0.4:
            sign = self.chance.choice(SIGNS)
            return ("op", sign, self.expression(depth - 1), self.expression(depth - 1))
        if self.names and choice < 0.75:
            return ("name", self.chance.choice(self.names))
        return self.number()

    def condition(self, depth):
        choice = self.chance.random()
        if choice < 0.2:
            return ("not", self.condition(depth))
        if depth > 0 and choice < 0.5:
            word = self.chance.choice(("and", "or"))
            return (word, self.condition(depth - 1), self.condition(depth - 1))
        relation = self.chance.choice(RELATIONS)
        return ("compare", relation, self.expression(2), self.expression(1))


def used_names(part):
    """The names that stand in the expressions of a block, or of a part of it."""
    if isinstance(part, tuple) and part[:1] == ("name",):
        return {part[1]}
    if isinstance(part, tuple):
        return set().union(*(used_names(inner) for inner in part))
    return set()


def changed_names(block):
    """The names that are set, asked, or the target of a call in a block."""
    found = set()
    for statement in block:
        if statement[0] in ("set", "ask"):
            found.add(statement[1])
        elif statement[0] == "call" and statement[3] is not None:
            found.add(statement[3])
        elif statement[0] in ("if", "while"):
            for inner in statement[2:]:
                found |= changed_names(inner)
    return found


def made_program(number):
    return Maker(number).program()


class LivelyMaker(Maker):
    """Makes programs of which runs reach the most: few statements end a run or fail always."""

    WORDS = ("set", "ask", "tell", "set", "set", "call", "ask")
    BLOCK_WORDS = ("if", "while", "if", "if", "check", "need", "return")

    def procedure(self, name, parameters):
        name, parameters, block = super().procedure(name, parameters)
        if name == "main":
            block = tuple(self.call_with_numbers(*head) for head in self.heads if head[0] != "main") + block
        return (name, parameters, block)

    def call_with_numbers(self, name, parameters):
        target = self.chance.choice((None, *self.global_names))
        return ("call", name, tuple(self.number() for _ in parameters), target)

    def expression(self, depth):
        choice = self.chance.random()
        if depth > 1 and choice < 0.5:
            sign = self.chance.choice(SIGNS)
            right = self.number() if sign in ("/", "mod", "*") else self.expression(0)
            return ("op", sign, self.expression(0), right)
        if self.names and choice < 0.9:
            return ("name", self.chance.choice(self.names))
        return self.number()

    def condition(self, depth):
        if depth > 0 and self.chance.random() < 0.2:
            word = self.chance.choice(("and", "or"))
            return (word, self.condition(depth - 1), self.condition(depth - 1))
        relation = self.chance.choice(("<", "<=", "<", "<=", "==", "!="))
        return ("compare", relation, self.expression(2), self.expression(1))


def lively_program(number):
    return LivelyMaker(number).program()


EDIT_WORDS = ("replace", "insert", "delete", "swap", "rename", "call it", "add", "drop", "insert", "replace")
NEW_NAMES = ("k", "new", "p_1", "f2", "result", "in")


class EditMaker(LivelyMaker):
    """Makes edits of a program; not all of them apply."""

    def __init__(self, program, number):
        super().__init__(f"edit {number}")
        self.global_names, self.procedures = program
        self.heads = [head for *head, _ in self.procedures]
        self.left = 3

    def edit(self):
        word = self.chance.choice(EDIT_WORDS)
        name, given, block = self.chance.choice(self.procedures)
        changed = set().union(*(changed_names(row[2]) for row in self.procedures))
        own = [*given, *sorted(changed_names(block) - set(self.global_names))]
        if word == "rename":
            return (word, self.chance.choice((*self.global_names, *own, *sorted(changed), "x")), self.chance.choice(NEW_NAMES))
        if word == "call it":
            return (word, name, self.chance.choice(NEW_NAMES))
        if word == "add":
            return (word, self.procedure(self.chance.choice(NEW_NAMES), tuple(self.chance.sample(PARAMETERS, 2))))
        if word == "drop":
            return (word, name)
        path = self.path(block, word == "insert")
        self.names = (*self.global_names, *own, *self.chance.sample(NEW_NAMES, self.chance.randint(0, 1)))
        if word in ("replace", "insert"):
            return (word, name, path, self.statement(2))
        return (word, name, path)

    def path(self, block, at_the_end):
        index = self.chance.randrange(len(block) + at_the_end) if len(block) + at_the_end > 0 else 0
        inner = block[index][2:] if index < len(block) and block[index][0] in ("if", "while") else ()
        if not inner or self.chance.random() < 0.4:
            return (index,)
        number = self.chance.randrange(len(inner))
        return (index, number, *self.path(inner[number], at_the_end))


def made_edit(program, number):
    return EditMaker(program, number).edit()


def made_range(chance):
    low = chance.choice((-10000, 10000, 0, chance.randint(-9, 9), chance.randint(-9, 9)))
    step = chance.randint(1, 5)
    many = chance.choice((0, 0, 1, 2, chance.randint(0, 40)))
    high = low + step * many
    if many == 0 or high > 10000:
        return (low, low, 0)
    return (low, high, step)


def made_paper(program, number):
    """A paper with drawn states; few of them are None."""
    chance = random.Random(f"paper {number}")
    global_names, procedures = program
    rows = []
    for name, given, block in procedures:
        own = sorted(changed_names(block) - set(global_names) | set(given))
        heads = {"in": (*global_names, *given), "out": (*global_names, "result")}
        for place in places(program, name):
            words = heads.get(place, (*global_names, *own))
            state = tuple((word, made_range(chance)) for word in words)
            rows.append((name, place, state if chance.random() < 0.8 else None))
    return tuple(rows)
