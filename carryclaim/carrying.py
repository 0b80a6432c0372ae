"""Carries papers across edits, and judges them there (sections 34 to 36 of the document)."""

from carryclaim.edits import apply, moved_place
from carryclaim.judging import complaints_at, form_ways
from carryclaim.papers import paper_places, state_names, state_table
from carryclaim.ranges import ZERO
from carryclaim.renaming import name_changes


def carry(program, paper, edit):
    """Return the paper of the edited program that has the old states at the places that moved."""
    edited = apply(program, edit)
    states = {}
    for name, place, state in paper:
        moved = moved_place(program, edit, name, place)
        if moved is not None:
            states[moved] = renamed_state(state, place, name_changes(edit)[0])
    return tuple([
        (name, place, fitted_state(states.get((name, place)), state_names(edited, name, place)))
        for name, place in paper_places(edited)
    ])


def renamed_state(state, place, new_names):
    """Return a state with the new names of its variables; the result of an exit is none of them."""
    if state is None:
        return None
    kept = state[-1:] if place == "out" else ()
    renamed_part = state[:len(state) - len(kept)]
    return tuple([(new_names.get(name, name), span) for name, span in renamed_part]) + kept


def fitted_state(state, names):
    """Return a state with exactly these names, in this order."""
    if state is None or tuple([name for name, _ in state]) == names:
        return state
    ranges = dict(state)
    return tuple([(name, ranges.get(name, ZERO)) for name in names])


def touched(program, edit):
    """Return the places of the edited program whose statements lead elsewhere than before."""
    edited = apply(program, edit)
    old_places = {}
    for name, place in paper_places(program):
        moved = moved_place(program, edit, name, place)
        if moved is not None:
            old_places[moved] = (name, place)
    return tuple([
        key for key in paper_places(edited)
        if key in old_places and leads_elsewhere(program, edited, edit, old_places[key], key)
    ])


def leads_elsewhere(program, edited, edit, old, new):
    """Tell whether a way out of a moved place does not lead where the old way's target moved."""
    old_ways = form_ways(program, old[0], old[1])
    new_ways = form_ways(edited, new[0], new[1])
    moved = [moved_place(program, edit, name, place) for _, name, place in old_ways]
    return moved != [(name, place) for _, name, place in new_ways]


def rejudge(program, paper, edit):
    """Return the complaints about the carried paper and the ways out of touched places."""
    edited = apply(program, edit)
    states = state_table(carry(program, paper, edit))
    found = []
    for name, place in touched(program, edit):
        found.extend(complaints_at(edited, states, name, place))
    return tuple(found)
