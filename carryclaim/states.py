"""States: a range for each variable (sections 20 to 22 of the document).

Two states are compared and joined by position: an exit state can have two
pairs that are called "result".
"""

from carryclaim.arithmetic import combine
from carryclaim.programs import condition_expressions
from carryclaim.ranges import at_least, at_most, between, join, other_than, within

KINDS = ("division", "overflow")


def state_within(first, second):
    """Tell whether each range of the first state is within that of the second one."""
    return all([within(mine[1], other[1]) for mine, other in zip(first, second)])


def state_join(first, second):
    """Return the state of the joins of the ranges of both."""
    return tuple([(mine[0], join(mine[1], other[1])) for mine, other in zip(first, second)])


def value_range(state, expression):
    """Return the range of an expression, or None, and the kinds of failures."""
    return range_among(dict(state), expression)


def range_among(ranges, expression):
    """Do the work of value_range with a dict of the ranges of the variables."""
    if expression[0] == "number":
        return ((expression[1], expression[1], 0), ())
    if expression[0] == "name":
        return (ranges[expression[1]], ())
    _, sign, left, right = expression
    first, kinds = range_among(ranges, left)
    if first is None:
        return (None, kinds)
    second, more = range_among(ranges, right)
    if second is None:
        return (None, in_order(kinds + more))
    result, last = combine(sign, first, second)
    return (result, in_order(kinds + more + last))


def in_order(kinds):
    """Return the kinds in their order, each once."""
    return tuple([kind for kind in KINDS if kind in kinds])


def condition_kinds(state, condition):
    """Return the kinds of failures of a condition's expressions, up to one without a range."""
    return kinds_of_all(state, condition_expressions(condition))


def kinds_of_all(state, expressions):
    """Return the kinds of failures of some expressions, up to one without a range."""
    kinds = ()
    for expression in expressions:
        found, more = value_range(state, expression)
        kinds = kinds + more
        if found is None:
            break
    return in_order(kinds)


def assume(state, condition):
    """Return the state of the values for which a condition can be true, or None."""
    for expression in condition_expressions(condition):
        if value_range(state, expression)[0] is None:
            return None
    return assume_truth(state, condition, True)


def assume_truth(state, condition, truth):
    """Return the state of the values for which a condition can have this truth, or None."""
    # Taken off in a loop, so that a row of nots makes no deep recursion.
    inner = condition
    wanted = truth
    while inner[0] == "not":
        inner = inner[1]
        wanted = not wanted
    if inner[0] == "compare":
        return assume_comparison(state, inner if wanted else opposite(inner))
    word, left, right = inner
    first = assume_truth(state, left, wanted)
    if (word == "and") == wanted:
        return None if first is None else assume_truth(first, right, wanted)
    return join_of_known(first, assume_truth(state, right, wanted))


def join_of_known(first, second):
    """Return the join of two states, either of which can be None."""
    if first is None:
        return second
    if second is None:
        return first
    return state_join(first, second)


def opposite(comparison):
    """Return the comparison that is true where this one is false."""
    _, relation, left, right = comparison
    if relation == "<":
        return ("compare", "<=", right, left)
    if relation == "<=":
        return ("compare", "<", right, left)
    if relation == "==":
        return ("compare", "!=", left, right)
    return ("compare", "==", left, right)


def assume_comparison(state, comparison):
    _, relation, left, right = comparison
    first = value_range(state, left)[0]
    second = value_range(state, right)[0]
    if first is None or second is None:
        return None
    first = cut_left(relation, first, second)
    if first is None:
        return None
    second = cut_right(relation, second, first)
    if second is None:
        return None
    return with_cut(with_cut(state, left, first), right, second)


def cut_left(relation, span, other):
    """Return the part of the left range for which there is a right value, or None."""
    if relation == "<":
        return at_most(span, other[1] - 1)
    if relation == "<=":
        return at_most(span, other[1])
    return cut_either(relation, span, other)


def cut_right(relation, span, other):
    """Return the part of the right range for which there is a left value, or None."""
    if relation == "<":
        return at_least(span, other[0] + 1)
    if relation == "<=":
        return at_least(span, other[0])
    return cut_either(relation, span, other)


def cut_either(relation, span, other):
    """Do the work of cut_left and cut_right for a relation that is the same both ways."""
    if relation == "==":
        return between(span, other[0], other[1])
    if other[0] == other[1]:
        return other_than(span, other[0])
    return span


def with_cut(state, expression, span):
    """Return the state in which the expression, if it is a name, has this range."""
    if expression[0] != "name":
        return state
    return with_range(state, expression[1], span)


def with_range(state, name, span):
    """Return the state in which the variable of this name has this range."""
    return tuple([(other, span if other == name else old) for other, old in state])
