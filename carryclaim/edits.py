"""Edits of programs: apply, undo, and where places move (sections 30 to 33 of the document)."""

from carryclaim.errors import EditProblem, ProgramProblem
from carryclaim.lexer import RESERVED_WORDS, tokens
from carryclaim.places import block_with, path_after, path_of, place_of, procedure_block, statement_with
from carryclaim.programs import all_statements, check_program, find_procedure, variables
from carryclaim.renaming import name_changes, renamed_program

PATH_EDITS = ("replace", "insert", "delete", "swap")


def apply(program, edit):
    """Return the edited program, or raise EditProblem."""
    make_program = EDITED_PROGRAMS[edit[0]]
    edited = make_program(program, edit)
    try:
        check_program(edited)
    except ProgramProblem:
        raise EditProblem("result") from None
    return edited


# Each function with_.. returns the program of one form of edit, not yet
# checked, or raises EditProblem.

def with_path_edit(program, edit):
    word, name, path = edit[:3]
    if find_procedure(program, name) is None:
        raise EditProblem("procedure")
    block = procedure_block(program, name)
    if not is_path_for(word, block, path):
        raise EditProblem("path")
    count, statements = splice_of(block, edit)
    return with_block(program, name, spliced(block, path, count, statements))


def with_rename(program, edit):
    known = program_variables(program)
    if edit[1] not in known or not is_name(edit[2]) or edit[2] in known:
        raise EditProblem("name")
    return renamed_program(program, name_changes(edit))


def with_call_it(program, edit):
    check_not_main(program, edit[1])
    if not is_name(edit[2]) or find_procedure(program, edit[2]) is not None:
        raise EditProblem("name")
    return renamed_program(program, name_changes(edit))


def with_added(program, edit):
    return (program[0], program[1] + (edit[1],))


def with_dropped(program, edit):
    check_not_main(program, edit[1])
    left = tuple([procedure for procedure in program[1] if procedure[0] != edit[1]])
    for _, _, block in left:
        if any([statement[:2] == ("call", edit[1]) for statement in all_statements(block)]):
            raise EditProblem("used")
    return (program[0], left)


EDITED_PROGRAMS = {
    "replace": with_path_edit,
    "insert": with_path_edit,
    "delete": with_path_edit,
    "swap": with_path_edit,
    "rename": with_rename,
    "call it": with_call_it,
    "add": with_added,
    "drop": with_dropped,
}


def check_not_main(program, name):
    if name == "main" or find_procedure(program, name) is None:
        raise EditProblem("procedure")


def is_name(text):
    """Tell whether a text is a name."""
    return tokens(text) == (("word", text, 1, 1),) and text not in RESERVED_WORDS


def program_variables(program):
    """Return a list of the variables of all procedures, some more than once."""
    found = []
    for procedure in program[1]:
        found.extend(variables(program, procedure[0]))
    return found


def is_path_for(word, block, path):
    """Tell whether an edit with this word can be made at this path."""
    if path == ():
        return False
    if word == "insert":
        around = block_with(block, path[:-1])
        return around is not None and 0 <= path[-1] <= len(around)
    if statement_with(block, path) is None:
        return False
    return word != "swap" or statement_with(block, path_after(path)) is not None


def splice_of(block, edit):
    """Return how many statements an edit takes away at its path, and which ones it puts there."""
    word, _, path = edit[:3]
    if word == "replace":
        return (1, (edit[3],))
    if word == "insert":
        return (0, (edit[3],))
    if word == "delete":
        return (1, ())
    return (2, (statement_with(block, path_after(path)), statement_with(block, path)))


def spliced(block, path, count, statements):
    """Return the block in which these statements stand instead of count ones at the path."""
    index = path[0]
    if len(path) == 1:
        return block[:index] + statements + block[index + count:]
    statement = block[index]
    # The blocks of a statement stand behind its form and its condition.
    at = path[1] + 2
    inner = spliced(statement[at], path[2:], count, statements)
    changed = statement[:at] + (inner,) + statement[at + 1:]
    return block[:index] + (changed,) + block[index + 1:]


def with_block(program, name, block):
    """Return the program in which a procedure has this block."""
    procedures = [old[:2] + (block,) if old[0] == name else old for old in program[1]]
    return (program[0], tuple(procedures))


def undo(program, edit):
    """Return the edit that leads from the edited program back, or raise EditProblem."""
    apply(program, edit)
    word = edit[0]
    if word in PATH_EDITS:
        return undone_path_edit(program, edit)
    if word == "add":
        return ("drop", edit[1][0])
    if word == "drop":
        if program[1][-1][0] != edit[1]:
            raise EditProblem("last")
        return ("add", program[1][-1])
    return (word, edit[2], edit[1])


def undone_path_edit(program, edit):
    word, name, path = edit[:3]
    if word == "swap":
        return edit
    if word == "insert":
        return ("delete", name, path)
    old = statement_with(procedure_block(program, name), path)
    if word == "delete":
        return ("insert", name, path, old)
    return ("replace", name, path, old)


def moved_place(program, edit, procedure, place):
    """Return the procedure and the place to which an edit moves a place, or None."""
    word = edit[0]
    if word == "drop" and edit[1] == procedure:
        return None
    if word == "call it" and edit[1] == procedure:
        return (edit[2], place)
    if word not in PATH_EDITS or edit[1] != procedure or place in ("in", "out"):
        return (procedure, place)
    path = moved_path(edit, path_of(place))
    if path is None:
        return None
    return (procedure, place_of(path))


def moved_path(edit, path):
    """Return the path to which an edit moves a path of its procedure, or None."""
    # A path that begins like this one goes on: only blocks, not statements, have these integers alone.
    depth = len(edit[2]) - 1
    if path[:depth] != edit[2][:depth]:
        return path
    index = moved_index(edit[0], edit[2][depth], path[depth])
    if index is None:
        return None
    return path[:depth] + (index,) + path[depth + 1:]


def moved_index(word, at, index):
    """Return where an edit at one index moves another index of the same block, or None."""
    if word == "insert":
        return index + 1 if index >= at else index
    if word == "swap" and index == at + 1:
        return at
    if index != at:
        return index - 1 if word == "delete" and index > at else index
    return at + 1 if word == "swap" else None
