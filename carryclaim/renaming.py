"""Changes the names of variables and procedures in programs and in parts of them.

Changes are a pair of dicts, each from old to new names: of the variables and
of the procedures. A name that is no key stays as it is.
"""

from carryclaim.programs import all_statements, changed_name, expression_names, statement_expressions


def name_changes(edit):
    """Return the changes that an edit makes; most make none."""
    if edit[0] == "rename":
        return ({edit[1]: edit[2]}, {})
    if edit[0] == "call it":
        return ({}, {edit[1]: edit[2]})
    return ({}, {})


def renamed_program(program, changes):
    global_names, procedures = program
    return (
        renamed_all(global_names, changes[0]),
        tuple([renamed_procedure(procedure, changes) for procedure in procedures]),
    )


def renamed_procedure(procedure, changes):
    name, parameter_names, block = procedure
    return (renamed(name, changes[1]), renamed_all(parameter_names, changes[0]), renamed_block(block, changes))


def renamed_block(block, changes):
    return tuple([renamed_statement(statement, changes) for statement in block])


def renamed_statement(statement, changes):
    word, first = statement[:2]
    new_names = changes[0]
    if word == "set":
        return (word, renamed(first, new_names), renamed_expression(statement[2], new_names))
    if word == "ask":
        return (word, renamed(first, new_names))
    if word in ("tell", "return"):
        return (word, renamed_expression(first, new_names))
    if word == "call":
        return renamed_call(statement, changes)
    # What stands behind a condition is blocks.
    blocks = [renamed_block(block, changes) for block in statement[2:]]
    return (word, renamed_condition(first, new_names), *blocks)


def renamed_call(statement, changes):
    word, name, expressions, target = statement
    arguments = tuple([renamed_expression(expression, changes[0]) for expression in expressions])
    # A target that is None is no key, and so it stays None.
    return (word, renamed(name, changes[1]), arguments, renamed(target, changes[0]))


def renamed_condition(condition, new_names):
    # Taken off in a loop, so that a row of nots makes no deep recursion.
    nots = 0
    inner = condition
    while inner[0] == "not":
        nots += 1
        inner = inner[1]
    if inner[0] == "compare":
        _, relation, left, right = inner
        found = ("compare", relation, renamed_expression(left, new_names), renamed_expression(right, new_names))
    else:
        word, left, right = inner
        found = (word, renamed_condition(left, new_names), renamed_condition(right, new_names))
    for _ in range(nots):
        found = ("not", found)
    return found


def renamed_expression(expression, new_names):
    if expression[0] == "number":
        return expression
    if expression[0] == "name":
        return ("name", renamed(expression[1], new_names))
    _, sign, left, right = expression
    return ("op", sign, renamed_expression(left, new_names), renamed_expression(right, new_names))


def renamed_all(names, new_names):
    return tuple([renamed(name, new_names) for name in names])


def renamed(name, new_names):
    return new_names.get(name, name)


def block_names(block):
    """Return a list of all names that are used as variables in a block, some more than once."""
    found = []
    for statement in all_statements(block):
        for expression in statement_expressions(statement):
            found.extend(expression_names(expression))
        changed = changed_name(statement)
        if changed is not None:
            found.append(changed)
    return found
