"""The judge: ways, complaints and claims (sections 24 to 26 of the document)."""

from carryclaim.papers import state_table
from carryclaim.places import block_place, first_place, next_place, statement_at
from carryclaim.programs import expression_signs, parameters, statement_expressions, variables
from carryclaim.ranges import ALL_VALUES, ZERO, has
from carryclaim.states import assume, kinds_of_all, state_within, value_range, with_range


def form_ways(program, name, place):
    """Return (way, procedure, place) for each way that there can be by the form of the statement."""
    if place == "out":
        return ()
    if place == "in":
        return (("start", name, first_place(program, name)),)
    statement = statement_at(program, name, place)
    word = statement[0]
    if word == "return":
        return (("end", name, "out"),)
    behind = next_place(program, name, place)
    if word == "if":
        return (("yes", name, block_place(program, name, place, 0)), ("no", name, block_place(program, name, place, 1)))
    if word == "while":
        return (("yes", name, block_place(program, name, place, 0)), ("no", name, behind))
    if word == "call":
        return (("enter", statement[1], "in"), ("back", name, behind))
    return (("next", name, behind),)


def ways(program, paper, procedure, place):
    """Return the ways (way, procedure, place, state) out of a place, given the states of a paper."""
    return ways_among(program, state_table(paper), procedure, place)


def ways_among(program, states, name, place):
    """Do the work of ways with a dict of the states by procedure and place."""
    if states[(name, place)] is None:
        return ()
    found = []
    for way, target_name, target in form_ways(program, name, place):
        state = led_state(program, states, name, place, way)
        if state is not None:
            if target == "out" and way != "end":
                state = exit_state(program, state, ZERO)
            found.append((way, target_name, target, state))
    return tuple(found)


def led_state(program, states, name, place, way):
    """Return the state with which a way leads on, or None; of all ways to an exit, only "end" gives an exit state."""
    state = states[(name, place)]
    if way == "start":
        return start_state(program, name, state)
    statement = statement_at(program, name, place)
    if way == "back":
        return back_state(program, statement, state, states[(statement[1], "out")])
    make_state = STATES_BY_WAY[way]
    return make_state(program, statement, state)


def start_state(program, name, entry):
    ranges = dict(entry)
    return tuple([(variable, ranges.get(variable, ZERO)) for variable in variables(program, name)])


def next_state(_, statement, state):
    word = statement[0]
    if word == "set":
        return with_known(state, statement[1], value_range(state, statement[2])[0])
    if word == "ask":
        return with_range(state, statement[1], ALL_VALUES)
    if word == "tell":
        return None if value_range(state, statement[1])[0] is None else state
    return assume(state, statement[1])


def yes_state(_, statement, state):
    return assume(state, statement[1])


def no_state(_, statement, state):
    return assume(state, ("not", statement[1]))


def end_state(program, statement, state):
    result = value_range(state, statement[1])[0]
    return None if result is None else exit_state(program, state, result)


def enter_state(program, statement, state):
    spans = argument_ranges(statement, state)
    if None in spans:
        return None
    return global_part(program, state) + tuple(zip(parameters(program, statement[1]), spans))


def back_state(program, statement, state, left):
    """Return what a call leads on; left is the state of the exit of the procedure that is called."""
    if left is None or None in argument_ranges(statement, state):
        return None
    # By position: a global can have the name of the result.
    back = global_part(program, left) + state[len(program[0]):]
    return with_range(back, statement[3], left[-1][1])


STATES_BY_WAY = {
    "next": next_state,
    "yes": yes_state,
    "no": no_state,
    "end": end_state,
    "enter": enter_state,
}


def with_known(state, name, span):
    """Return the state in which a variable has this range, or None if that is None."""
    return None if span is None else with_range(state, name, span)


def argument_ranges(statement, state):
    """Return a list of the ranges, or None, of the expressions of a call."""
    return [value_range(state, expression)[0] for expression in statement[2]]


def global_part(program, state):
    return state[:len(program[0])]


def exit_state(program, state, result):
    """Return the exit state with the globals of a state and the range of a result."""
    return global_part(program, state) + (("result", result),)


def judge(program, paper):
    """Return the complaints (procedure, place, way) about a paper."""
    states = state_table(paper)
    found = []
    if not begins(states[("main", "in")]):
        found.append(("main", "in", "begin"))
    for name, place, _ in paper:
        found.extend(complaints_at(program, states, name, place))
    return tuple(found)


def begins(state):
    """Tell whether a state of the entry of main is that of a run's beginning."""
    return state is not None and all([has(span, 0) for _, span in state])


def complaints_at(program, states, name, place):
    """Return a list of the complaints about the ways out of one place."""
    return [(name, place, wrong[0]) for wrong in wrong_ways(program, states, name, place)]


def wrong_ways(program, states, name, place):
    """Return a list of those ways out of a place that lead out of the states."""
    return [way for way in ways_among(program, states, name, place) if not is_allowed(states, way)]


def is_allowed(states, way):
    _, name, place, state = way
    allowed = states[(name, place)]
    return allowed is not None and state_within(state, allowed)


def claims(program, paper):
    """Return a row (procedure, place, kind, verdict) for each failure that a statement can have by its form."""
    found = []
    for name, place, state in paper:
        statement = statement_at(program, name, place)
        if statement is not None:
            for kind in form_kinds(statement):
                found.append((name, place, kind, verdict(state, statement, kind)))
    return tuple(found)


def form_kinds(statement):
    """Return the kinds of failures that a statement can have by its form, in their order."""
    signs = []
    for expression in statement_expressions(statement):
        signs.extend(expression_signs(expression))
    kinds = []
    if "/" in signs or "mod" in signs:
        kinds.append("division")
    if signs != []:
        kinds.append("overflow")
    if statement[0] == "check":
        kinds.append("check")
    return kinds


def verdict(state, statement, kind):
    if state is None:
        return "unreached"
    return "open" if can_fail(state, statement, kind) else "safe"


def can_fail(state, statement, kind):
    """Tell whether a state gives this kind of failure of a statement."""
    if kind == "check":
        return assume(state, ("not", statement[1])) is not None
    return kind in kinds_of_all(state, statement_expressions(statement))
