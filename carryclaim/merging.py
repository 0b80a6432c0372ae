"""Brings two edits of one program together (sections 37 and 38 of the document)."""

from carryclaim.edits import PATH_EDITS, apply, moved_place
from carryclaim.errors import Clash, EditProblem
from carryclaim.places import path_after, path_of, place_of
from carryclaim.renaming import block_names, name_changes, renamed, renamed_procedure, renamed_statement


def rebase(program, edit, other):
    """Return the edit that does behind the other one what this one does to the program, or raise Clash."""
    check_names(edit, other)
    found = renamed_edit(edit, name_changes(other))
    if edit[0] in PATH_EDITS:
        found = found[:2] + (rebased_path(program, edit, other),) + found[3:]
    try:
        apply(apply(program, other), found)
    except EditProblem:
        raise Clash("result") from None
    return found


def both(program, first, second):
    """Return the program of both edits, or raise Clash."""
    return apply(apply(program, first), rebase(program, second, first))


def check_names(edit, other):
    """Raise Clash if two edits are in each other's way by names."""
    word = other[0]
    if word in ("rename", "call it") and edit[:2] == other[:2]:
        raise Clash("name")
    if word == "add" and edit[0] == "add":
        raise Clash("name")
    if word == "rename" and other[2] in own_names(edit):
        raise Clash("name")


def own_names(edit):
    """Return the names of variables in the statement or the added procedure of an edit."""
    if edit[0] in ("replace", "insert"):
        return block_names((edit[3],))
    if edit[0] == "add":
        return list(edit[1][1]) + block_names(edit[1][2])
    return []


def renamed_edit(edit, changes):
    """Return the edit with changed names."""
    word = edit[0]
    if word == "rename":
        return (word, renamed(edit[1], changes[0]), edit[2])
    if word == "add":
        return (word, renamed_procedure(edit[1], changes))
    name = renamed(edit[1], changes[1])
    if word in ("replace", "insert"):
        return (word, name, edit[2], renamed_statement(edit[3], changes))
    return (word, name) + edit[2:]


def rebased_path(program, edit, other):
    """Return the path of an edit in the program of the other edit, or raise Clash."""
    word, name, path = edit[:3]
    if word == "insert" and other[0] in ("insert", "swap") and other[1:3] == (name, path):
        raise Clash("place")
    # The end of a block moves as a statement that stands there would.
    found = path_moved(program, other, name, path)
    if word == "swap" and path_moved(program, other, name, path_after(path)) != path_after(found):
        raise Clash("place")
    return found


def path_moved(program, other, name, path):
    """Return the path to which the other edit moves a path of a procedure, or raise Clash."""
    moved = moved_place(program, other, name, place_of(path))
    if moved is None:
        raise Clash("place")
    return path_of(moved[1])
