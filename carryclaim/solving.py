"""Makes papers that the judge accepts (section 28 of the document)."""

from carryclaim.judging import begins, wrong_ways
from carryclaim.papers import blank_paper, paper_places, start_globals, state_table
from carryclaim.places import statement_at
from carryclaim.programs import all_statements, expression_numbers, statement_expressions
from carryclaim.ranges import GREATEST_VALUE, LEAST_VALUE, widen
from carryclaim.states import join_of_known, state_join

MOST_JOINS = 3


def marks(program):
    """Return the integers, ascending, close to which widened ranges end."""
    found = [LEAST_VALUE, GREATEST_VALUE]
    for _, _, block in program[1]:
        for statement in all_statements(block):
            for expression in statement_expressions(statement):
                for n in expression_numbers(expression):
                    found.extend([n - 1, n, n + 1])
    return tuple(sorted(set([n for n in found if LEAST_VALUE <= n <= GREATEST_VALUE])))


class Raising:
    """The states of a paper while they are raised.

    The first complaint is found without judging the whole paper again: a
    place about whose ways there is none is looked at anew only when its own
    state has changed, or, for a call, that of the exit which the call leads
    back from. States only grow, so a way that was within its target stays so.
    """

    def __init__(self, program, paper):
        self.program = program
        self.program_marks = marks(program)
        self.states = state_table(paper)
        self.order = paper_places(program)
        self.positions = {key: at for at, key in enumerate(self.order)}
        self.waiting = [True] * len(self.order)
        self.raised = {key: 0 for key in self.order}

    def admit_begin(self):
        """Settle the complaint "begin"."""
        state = self.states[("main", "in")]
        if not begins(state):
            self.states[("main", "in")] = join_of_known(state, start_globals(self.program))

    def settle_first(self):
        """Settle the first complaint that there may be at the first waiting place."""
        at = self.waiting.index(True)
        name, place = self.order[at]
        wrong = wrong_ways(self.program, self.states, name, place)
        if wrong == []:
            self.waiting[at] = False
        else:
            self.raise_target(wrong[0])

    def raise_target(self, way):
        _, name, place, state = way
        key = (name, place)
        old = self.states[key]
        if old is None:
            self.states[key] = state
        elif self.raised[key] < MOST_JOINS:
            self.states[key] = state_join(old, state)
        else:
            self.states[key] = state_widened(old, state, self.program_marks)
        self.raised[key] += 1
        self.waiting[self.positions[key]] = True
        if place == "out":
            self.wait_for_calls(name)

    def wait_for_calls(self, name):
        """Let all calls of a procedure be looked at anew."""
        for at, (caller, place) in enumerate(self.order):
            statement = statement_at(self.program, caller, place)
            if statement is not None and statement[:2] == ("call", name):
                self.waiting[at] = True

    def result(self):
        return tuple([(name, place, self.states[(name, place)]) for name, place in self.order])


def state_widened(old, new, program_marks):
    return tuple([(mine[0], widen(mine[1], other[1], program_marks)) for mine, other in zip(old, new)])


def repair(program, paper):
    """Return a paper that is accepted and that contains the given one."""
    work = Raising(program, paper)
    work.admit_begin()
    while True in work.waiting:
        work.settle_first()
    return work.result()


def solve(program):
    """Return a paper of the program that is accepted, found from the blank one."""
    return repair(program, blank_paper(program))
