"""What a program consists of, and what it must keep (sections 8 and 9 of the document)."""

from carryclaim.errors import ProgramProblem

MOST_GLOBALS = 6
MOST_PROCEDURES = 8
MOST_STATEMENTS = 40
MOST_PARAMETERS = 4
MOST_LOCALS = 8


def find_procedure(program, name):
    """Return the procedure of this name, or None if there is none."""
    for procedure in program[1]:
        if procedure[0] == name:
            return procedure
    return None


def parameters(program, name):
    """Return the parameters of a procedure, in their order."""
    return find_procedure(program, name)[1]


def local_names(program, name):
    """Return the locals of a procedure, ascending."""
    _, parameter_names, block = find_procedure(program, name)
    found = list(parameter_names)
    for statement in all_statements(block):
        changed = changed_name(statement)
        if changed is not None and changed not in program[0]:
            found.append(changed)
    return tuple(sorted(set(found)))


def variables(program, name):
    """Return the variables of a procedure: the globals, and then its locals."""
    return program[0] + local_names(program, name)


def changed_name(statement):
    """Return the name that gets a value by a statement itself, or None."""
    if statement[0] in ("set", "ask"):
        return statement[1]
    if statement[0] == "call":
        return statement[3]
    return None


def inner_blocks(statement):
    """Return the blocks of a statement; most have none."""
    if statement[0] in ("if", "while"):
        return statement[2:]
    return ()


def all_statements(block):
    """Return the statements of a block and of all blocks in it, in the order of the text."""
    found = []
    for statement in block:
        found.append(statement)
        for inner in inner_blocks(statement):
            found.extend(all_statements(inner))
    return tuple(found)


def statement_expressions(statement):
    """Return the expressions of a statement, but not of its blocks, from the left to the right."""
    word = statement[0]
    if word == "ask":
        return ()
    if word == "set":
        return (statement[2],)
    if word == "call":
        return statement[2]
    if word in ("tell", "return"):
        return (statement[1],)
    return condition_expressions(statement[1])


def condition_expressions(condition):
    """Return the expressions of a condition, from the left to the right."""
    # Taken off in a loop, so that a row of nots makes no deep recursion.
    inner = condition
    while inner[0] == "not":
        inner = inner[1]
    if inner[0] == "compare":
        return inner[2:]
    return condition_expressions(inner[1]) + condition_expressions(inner[2])


def expression_names(expression):
    """Return the names in an expression, from the left to the right."""
    if expression[0] == "number":
        return ()
    if expression[0] == "name":
        return (expression[1],)
    return expression_names(expression[2]) + expression_names(expression[3])


def expression_numbers(expression):
    """Return the numbers in an expression, from the left to the right."""
    if expression[0] == "number":
        return (expression[1],)
    if expression[0] == "name":
        return ()
    return expression_numbers(expression[2]) + expression_numbers(expression[3])


def expression_signs(expression):
    """Return the signs of the operations in an expression."""
    if expression[0] != "op":
        return ()
    return (expression[1],) + expression_signs(expression[2]) + expression_signs(expression[3])


def check_program(program):
    """Return None, or raise ProgramProblem for the first rule that is broken."""
    check_whole(program)
    for procedure in program[1]:
        check_procedure(program, procedure)


def check_whole(program):
    """Check what does not concern one procedure alone."""
    global_names, procedures = program
    if first_repeated(global_names) is not None:
        raise ProgramProblem("", "duplicate")
    repeated = first_repeated([procedure[0] for procedure in procedures])
    if repeated is not None:
        raise ProgramProblem(repeated, "duplicate")
    main = find_procedure(program, "main")
    if main is None or main[1] != ():
        raise ProgramProblem("", "main")
    if len(global_names) > MOST_GLOBALS or len(procedures) > MOST_PROCEDURES:
        raise ProgramProblem("", "size")


def check_procedure(program, procedure):
    name, parameter_names, block = procedure
    if has_duplicates(program[0], parameter_names):
        raise ProgramProblem(name, "duplicate")
    if is_too_large(program, procedure):
        raise ProgramProblem(name, "size")
    statements = all_statements(block)
    known = variables(program, name)
    for statement in statements:
        if has_unknown_names(program, known, statement):
            raise ProgramProblem(name, "unknown")
    for statement in statements:
        if statement[0] == "call" and len(statement[2]) != len(parameters(program, statement[1])):
            raise ProgramProblem(name, "count")


def first_repeated(names):
    """Return the first name that stands behind an equal one, or None."""
    for at, name in enumerate(names):
        if name in names[:at]:
            return name
    return None


def has_duplicates(global_names, parameter_names):
    if first_repeated(parameter_names) is not None:
        return True
    return any([name in global_names for name in parameter_names])


def is_too_large(program, procedure):
    name, parameter_names, block = procedure
    return (
        len(all_statements(block)) > MOST_STATEMENTS
        or len(parameter_names) > MOST_PARAMETERS
        or len(local_names(program, name)) > MOST_LOCALS
    )


def has_unknown_names(program, known, statement):
    """Tell whether a statement calls an unknown procedure or uses a name that is not known."""
    if statement[0] == "call" and find_procedure(program, statement[1]) is None:
        return True
    for expression in statement_expressions(statement):
        if any([name not in known for name in expression_names(expression)]):
            return True
    return False
