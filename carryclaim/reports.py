"""Reports: claims together with what runs have shown, and how they change (section 43 of the document)."""

from carryclaim.edits import moved_place
from carryclaim.judging import claims


def report_rows(program, paper, witness_rows):
    """Return the claims of a paper, "broken" where a witness is known."""
    shown = [row[:3] for row in witness_rows]
    return tuple([row[:3] + ("broken",) if row[:3] in shown else row for row in claims(program, paper)])


def report_changes(program, edit, old_rows, new_rows):
    """Return the changes of the report of the edited program against that of the program."""
    verdicts = {}
    gone = []
    for name, place, kind, verdict in old_rows:
        moved = moved_place(program, edit, name, place)
        if moved is None:
            gone.append((name, place, kind, verdict, None))
        else:
            verdicts[moved + (kind,)] = verdict
    found = []
    for name, place, kind, verdict in new_rows:
        before = verdicts.get((name, place, kind))
        if before != verdict:
            found.append((name, place, kind, before, verdict))
    return tuple(found + gone)
