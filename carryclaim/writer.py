"""Writes a program as a text (section 7 of the document)."""

INDENT = "    "


def write(program):
    """Return the text of a program; parse makes the same program of it."""
    global_names, procedures = program
    lines = ["global " + name + ";" for name in global_names]
    for procedure in procedures:
        lines.extend(procedure_lines(procedure))
    return "".join([line + "\n" for line in lines])


def procedure_lines(procedure):
    name, parameter_names, block = procedure
    first = "proc " + name + "(" + ", ".join(parameter_names) + ") {"
    return [first] + block_lines(block) + ["}"]


def block_lines(block):
    """Return the lines of a block's statements, further in than what is around them."""
    lines = []
    for statement in block:
        lines.extend(statement_lines(statement))
    return [INDENT + line for line in lines]


def statement_lines(statement):
    if statement[0] == "if":
        return if_lines(statement)
    if statement[0] == "while":
        return while_lines(statement)
    return [simple_text(statement) + ";"]


def if_lines(statement):
    _, condition, first, second = statement
    lines = ["if " + condition_text(condition) + " {"] + block_lines(first)
    if second != ():
        lines.append("} else {")
        lines.extend(block_lines(second))
    lines.append("}")
    return lines


def while_lines(statement):
    _, condition, block = statement
    return ["while " + condition_text(condition) + " {"] + block_lines(block) + ["}"]


def simple_text(statement):
    """Return the text of a statement without blocks, up to its semicolon."""
    word = statement[0]
    if word == "set":
        return statement[1] + " = " + expression_text(statement[2])
    if word == "ask":
        return "ask " + statement[1]
    if word == "call":
        return call_text(statement)
    if word in ("check", "need"):
        return word + " " + condition_text(statement[1])
    return word + " " + expression_text(statement[1])


def call_text(statement):
    _, name, expressions, target = statement
    texts = [expression_text(expression) for expression in expressions]
    text = "call " + name + "(" + ", ".join(texts) + ")"
    if target is None:
        return text
    return text + " to " + target


def condition_text(condition):
    # Taken off in a loop, so that a row of nots makes no deep recursion.
    text = ""
    inner = condition
    while inner[0] == "not":
        text = text + "not "
        inner = inner[1]
    if inner[0] == "compare":
        _, relation, left, right = inner
        return text + expression_text(left) + " " + relation + " " + expression_text(right)
    word, left, right = inner
    return text + "[" + condition_text(left) + " " + word + " " + condition_text(right) + "]"


def expression_text(expression):
    if expression[0] == "number":
        return str(expression[1])
    if expression[0] == "name":
        return expression[1]
    _, sign, left, right = expression
    return "(" + expression_text(left) + " " + sign + " " + expression_text(right) + ")"
