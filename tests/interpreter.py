"""Runs of programs, found by following the blocks themselves.

Points 10 to 13 in a way of its own: a call and a block are calls of Python
here, nothing is looked up by its place, and all that ends a run is raised.
"""


class End(Exception):
    """What ends a run."""


class Return(Exception):
    """What ends a call."""


class Interpreter:
    def __init__(self, program, inputs, limit):
        self.shared = dict.fromkeys(program[0], 0)
        self.procedures = {name: (given, block) for name, given, block in program[1]}
        self.inputs = list(inputs)
        self.limit = limit
        self.open = 0
        self.told = []
        self.steps = []
        try:
            self.call("main", ())
            self.ending = ("done",)
        except End as end:
            self.ending = end.args

    def call(self, name, arguments):
        if self.open == 12:
            raise End("deep")
        given, block = self.procedures[name]
        own = {word: 0 for word in sorted(names_changed(block) | set(given)) if word not in self.shared}
        own.update(zip(given, arguments))
        self.open += 1
        result = 0
        try:
            self.block(name, own, block, "")
        except Return as found:
            (result,) = found.args
        self.open -= 1
        return result

    def block(self, name, own, block, around):
        for index, statement in enumerate(block):
            self.statement(name, own, statement, around + str(index))

    def begin(self, name, own, place):
        if len(self.steps) == self.limit:
            raise End("running")
        self.steps.append((name, place, (*self.shared.values(), *own.values())))

    def statement(self, name, own, statement, place):
        self.begin(name, own, place)
        try:
            self.execute(name, own, statement, place)
        except ArithmeticError as error:
            raise End("failed", name, place, str(error)) from None

    def execute(self, name, own, statement, place):
        word = statement[0]
        values = {**self.shared, **own}
        if word == "set":
            self.put(own, statement[1], value(values, statement[2]))
        elif word == "ask":
            if not self.inputs:
                raise End("starved")
            self.put(own, statement[1], self.inputs.pop(0))
        elif word == "tell":
            self.told.append(value(values, statement[1]))
        elif word == "check":
            if not truth(values, statement[1]):
                raise ArithmeticError("check")
        elif word == "need":
            if not truth(values, statement[1]):
                raise End("halted")
        elif word == "return":
            raise Return(value(values, statement[1]))
        elif word == "if":
            index = 0 if truth(values, statement[1]) else 1
            self.block(name, own, statement[2 + index], f"{place}.{index}.")
        elif word == "while":
            while truth({**self.shared, **own}, statement[1]):
                self.block(name, own, statement[2], place + ".0.")
                self.begin(name, own, place)
        else:
            result = self.call(statement[1], [value(values, part) for part in statement[2]])
            if statement[3] is not None:
                self.put(own, statement[3], result)

    def put(self, own, name, number):
        (self.shared if name in self.shared else own)[name] = number


def names_changed(block):
    found = set()
    for statement in block:
        if statement[0] in ("set", "ask"):
            found.add(statement[1])
        if statement[0] == "call":
            found |= {statement[3]} - {None}
        for inner in statement[2:] if statement[0] in ("if", "while") else ():
            found |= names_changed(inner)
    return found


def value(values, part):
    if part[0] != "op":
        return values[part[1]] if part[0] == "name" else part[1]
    left, right = value(values, part[2]), value(values, part[3])
    if part[1] in ("/", "mod") and right == 0:
        raise ArithmeticError("division")
    result = {
        "+": lambda: left + right,
        "-": lambda: left - right,
        "*": lambda: left * right,
        "/": lambda: quotient(left, right),
        "mod": lambda: left - right * quotient(left, right),
    }[part[1]]()
    if abs(result) > 10000:
        raise ArithmeticError("overflow")
    return result


def quotient(left, right):
    """The greatest integer that is not greater than the quotient, by trial."""
    found = abs(left) // abs(right)
    if (left < 0) == (right < 0):
        return found
    return -found if found * abs(right) == abs(left) else -found - 1


def truth(values, part):
    if part[0] == "not":
        return not truth(values, part[1])
    if part[0] == "compare":
        left, right = value(values, part[2]), value(values, part[3])
        return {"<": left < right, "<=": left <= right, "==": left == right, "!=": left != right}[part[1]]
    both = [truth(values, part[1]), truth(values, part[2])]
    return all(both) if part[0] == "and" else any(both)
