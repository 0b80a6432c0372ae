"""Papers: what the variables can be at each place (sections 23, 28 and 29 of the document)."""

from carryclaim.errors import PaperProblem
from carryclaim.places import places
from carryclaim.programs import parameters, variables
from carryclaim.ranges import GREATEST_VALUE, LEAST_VALUE, ZERO

# More digits than a number of a paper can have: Python's int refuses texts of thousands of digits.
MOST_DIGITS = 5


def state_at(paper, procedure, place):
    """Return the paper's state of this place."""
    return state_table(paper)[(procedure, place)]


def state_table(paper):
    """Return a dict of the states of a paper, by procedure and place."""
    return {(name, place): state for name, place, state in paper}


def paper_places(program):
    """Return the pairs of procedure and place that a paper of the program has, in order."""
    return tuple([(name, place) for name, _, _ in program[1] for place in places(program, name)])


def state_names(program, name, place):
    """Return the names that stand in a state of this place, in order."""
    if place == "in":
        return program[0] + parameters(program, name)
    if place == "out":
        return program[0] + ("result",)
    return variables(program, name)


def start_globals(program):
    """Return the globals' part of a state in which all of them are 0."""
    return tuple([(name, ZERO) for name in program[0]])


def blank_paper(program):
    """Return the paper that says of main alone, and only of its entry, that runs come there."""
    return tuple([
        (name, place, start_globals(program) if (name, place) == ("main", "in") else None)
        for name, place in paper_places(program)
    ])


def write_paper(paper):
    """Return the text of a paper; read_paper makes the same paper of it."""
    return "".join([name + " " + place + state_text(state) + "\n" for name, place, state in paper])


def state_text(state):
    if state is None:
        return " never"
    return "".join([" " + name + "=" + range_text(span) for name, span in state])


def range_text(span):
    low, high, step = span
    if step == 0:
        return str(low)
    return f"{low}..{high}/{step}"


class NoState(Exception):
    """A part of a line is not what write_paper writes for a state."""


def read_paper(program, text):
    """Return the paper of a text, or raise PaperProblem for the first wrong line."""
    # Behind the last newline stands a part that is no line; in a paper it is empty.
    parts = text.split("\n")
    found = []
    for at, (name, place) in enumerate(paper_places(program)):
        if at + 1 == len(parts):
            raise PaperProblem(at + 1)
        try:
            state = read_line(parts[at], name + " " + place, state_names(program, name, place))
        except NoState:
            raise PaperProblem(at + 1) from None
        found.append((name, place, state))
    if parts[len(found):] != [""]:
        raise PaperProblem(len(found) + 1)
    return tuple(found)


def read_line(line, head, names):
    """Return the state of a line that begins with this head, or raise NoState."""
    if line == head + " never":
        return None
    words = line[len(head):].split(" ")
    if not line.startswith(head) or words[0] != "" or len(words) != len(names) + 1:
        raise NoState()
    return tuple([(name, read_pair(word, name)) for word, name in zip(words[1:], names)])


def read_pair(word, name):
    """Return the range of a word that is a name, = and a range, or raise NoState."""
    head = name + "="
    if not word.startswith(head):
        raise NoState()
    return read_range(word[len(head):])


def read_range(text):
    low_text, dots, rest = text.partition("..")
    low = read_integer(low_text)
    if dots == "":
        span = (low, low, 0)
    else:
        high_text, _, step_text = rest.partition("/")
        span = (low, read_integer(high_text), read_integer(step_text))
        check_step(span)
    if span[0] < LEAST_VALUE or span[1] > GREATEST_VALUE:
        raise NoState()
    return span


def check_step(span):
    """Raise NoState if these are not the ends and the step of a range of several integers."""
    low, high, step = span
    if low >= high or step < 1 or (high - low) % step != 0:
        raise NoState()


def read_integer(text):
    """Return the integer that is written so, or raise NoState."""
    digits = text.removeprefix("-")
    if not digits.isdigit() or len(digits) > MOST_DIGITS or str(int(text)) != text:
        raise NoState()
    return int(text)
