"""Runs programs (sections 10 to 13 of the document)."""

from carryclaim.places import block_place, first_place, next_place, statement_at
from carryclaim.programs import local_names, parameters
from carryclaim.ranges import GREATEST_VALUE, LEAST_VALUE

MOST_OPEN_CALLS = 12


class Failure(Exception):
    """A statement fails; kind tells how."""

    def __init__(self, kind):
        super().__init__(kind)
        self.kind = kind


class OpenCall:
    """A call that has not ended: the values of its locals, and where it is."""

    def __init__(self, name, own_values, place, target):
        self.name = name
        self.own_values = own_values
        self.place = place
        # Whose value its result becomes, in the call that made it; or None.
        self.target = target


class Machine:
    """A run: what it has done so far, and its ending, which is None as long as it goes on."""

    def __init__(self, program, inputs, limit):
        self.program = program
        self.inputs = inputs
        self.limit = limit
        self.global_values = {name: 0 for name in program[0]}
        self.calls = []
        self.taken = 0
        self.told = []
        self.steps = []
        self.ending = None

    def go_on(self):
        """Make the whole run."""
        self.enter("main", (), None)
        while self.ending is None:
            call = self.calls[-1]
            if call.place == "out":
                self.leave(0)
            elif len(self.steps) == self.limit:
                self.ending = ("running",)
            else:
                self.make_step(call)

    def make_step(self, call):
        statement = statement_at(self.program, call.name, call.place)
        known = self.known_values(call)
        self.steps.append((call.name, call.place, tuple(list(known.values()))))
        action = ACTIONS[statement[0]]
        try:
            action(self, call, statement, known)
        except Failure as failure:
            self.ending = ("failed", call.name, call.place, failure.kind)

    def known_values(self, call):
        """Return the values of the variables of a call's procedure, in their order."""
        return {**self.global_values, **call.own_values}

    def assign(self, call, name, value):
        if name in self.global_values:
            self.global_values[name] = value
        else:
            call.own_values[name] = value

    def enter(self, name, arguments, target):
        # The locals are put in ascending order: known_values keeps it.
        own_values = {local: 0 for local in local_names(self.program, name)}
        for parameter, value in zip(parameters(self.program, name), arguments):
            own_values[parameter] = value
        self.calls.append(OpenCall(name, own_values, first_place(self.program, name), target))

    def leave(self, result):
        """End the innermost call with this result."""
        ended = self.calls.pop()
        if self.calls == []:
            self.ending = ("done",)
        elif ended.target is not None:
            self.assign(self.calls[-1], ended.target, result)

    def pass_statement(self, call):
        call.place = next_place(self.program, call.name, call.place)

    def pass_to_block(self, call, index):
        call.place = block_place(self.program, call.name, call.place, index)


def run(program, inputs, limit):
    """Return the ending of a run and the tuple of the told values."""
    machine = Machine(program, inputs, limit)
    machine.go_on()
    return (machine.ending, tuple(machine.told))


def trace(program, inputs, limit):
    """Return the steps of a run: procedure, place, and the values before the step."""
    machine = Machine(program, inputs, limit)
    machine.go_on()
    return tuple(machine.steps)


# Each function do_.. executes one form of statement. It changes the place of
# the call only when nothing can fail any more.

def do_set(machine, call, statement, known):
    machine.assign(call, statement[1], evaluate(known, statement[2]))
    machine.pass_statement(call)


def do_ask(machine, call, statement, known):
    if machine.taken == len(machine.inputs):
        machine.ending = ("starved",)
    else:
        machine.assign(call, statement[1], machine.inputs[machine.taken])
        machine.taken += 1
        machine.pass_statement(call)


def do_tell(machine, call, statement, known):
    machine.told.append(evaluate(known, statement[1]))
    machine.pass_statement(call)


def do_check(machine, call, statement, known):
    if not holds(known, statement[1]):
        raise Failure("check")
    machine.pass_statement(call)


def do_need(machine, call, statement, known):
    if holds(known, statement[1]):
        machine.pass_statement(call)
    else:
        machine.ending = ("halted",)


def do_return(machine, call, statement, known):
    machine.leave(evaluate(known, statement[1]))


def do_if(machine, call, statement, known):
    machine.pass_to_block(call, 0 if holds(known, statement[1]) else 1)


def do_while(machine, call, statement, known):
    if holds(known, statement[1]):
        machine.pass_to_block(call, 0)
    else:
        machine.pass_statement(call)


def do_call(machine, call, statement, known):
    _, name, expressions, target = statement
    arguments = [evaluate(known, expression) for expression in expressions]
    if len(machine.calls) == MOST_OPEN_CALLS:
        machine.ending = ("deep",)
    else:
        machine.pass_statement(call)
        machine.enter(name, arguments, target)


ACTIONS = {
    "set": do_set,
    "ask": do_ask,
    "tell": do_tell,
    "check": do_check,
    "need": do_need,
    "return": do_return,
    "if": do_if,
    "while": do_while,
    "call": do_call,
}


def evaluate(known, expression):
    """Return the value of an expression, or raise Failure."""
    if expression[0] == "number":
        return expression[1]
    if expression[0] == "name":
        return known[expression[1]]
    _, sign, left, right = expression
    first = evaluate(known, left)
    second = evaluate(known, right)
    if sign in ("/", "mod") and second == 0:
        raise Failure("division")
    result = operation_result(sign, first, second)
    if result < LEAST_VALUE or result > GREATEST_VALUE:
        raise Failure("overflow")
    return result


def operation_result(sign, first, second):
    """Return the result of an operation, whatever its size."""
    if sign == "+":
        return first + second
    if sign == "-":
        return first - second
    if sign == "*":
        return first * second
    if sign == "/":
        return first // second
    return first % second


def holds(known, condition):
    """Tell whether a condition is true, or raise Failure."""
    # Taken off in a loop, so that a row of nots makes no deep recursion.
    inner = condition
    wanted = True
    while inner[0] == "not":
        inner = inner[1]
        wanted = not wanted
    if inner[0] == "compare":
        _, relation, left, right = inner
        return compare(relation, evaluate(known, left), evaluate(known, right)) == wanted
    word, left, right = inner
    # Both are asked before they are joined: the right one can fail, whatever the left one is.
    first = holds(known, left)
    second = holds(known, right)
    if word == "and":
        return (first and second) == wanted
    return (first or second) == wanted


def compare(relation, first, second):
    if relation == "<":
        return first < second
    if relation == "<=":
        return first <= second
    if relation == "==":
        return first == second
    return first != second
