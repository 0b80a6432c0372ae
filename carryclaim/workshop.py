"""The workshop: versions of programs with their papers (sections 39 to 44 of the document)."""

from carryclaim.carrying import carry
from carryclaim.edits import apply
from carryclaim.errors import ClaimError, Full, JournalProblem, NotEdited, NotMergeable, NoVersion
from carryclaim.judging import judge
from carryclaim.machine import run
from carryclaim.merging import rebase
from carryclaim.papers import read_paper
from carryclaim.parser import parse
from carryclaim.programs import check_program
from carryclaim.reports import report_changes, report_rows
from carryclaim.solving import repair, solve

MOST_VERSIONS = 60
STEP_LIMIT = 2000


class Version:
    """A program with an accepted paper, the inputs that made it fail, and where it is from."""

    def __init__(self, program, paper, origin):
        self.program = program
        self.paper = paper
        self.origin = origin
        self.witnesses = []

    def accept(self, paper):
        self.paper = paper

    def test(self, inputs):
        """Run the program, and return the ending and whether the inputs are a new witness."""
        ending = run(self.program, inputs, STEP_LIMIT)[0]
        if ending[0] != "failed" or ending[1:] in [row[:3] for row in self.witnesses]:
            return (ending, False)
        self.witnesses.append(ending[1:] + (inputs,))
        return (ending, True)

    def witness_inputs(self):
        return [row[3] for row in self.witnesses]


class Workshop:
    """Versions that are numbered from 1 on, and a journal of what made them."""

    def __init__(self):
        self.kept = []
        self.entries = []

    def begin(self, text):
        """Make a version of the program of a text and return its number."""
        program = parse(text)
        check_program(program)
        self.check_room()
        self.keep(Version(program, solve(program), ("begin",)), [], ("begin", text))
        return len(self.kept)

    def versions(self):
        return len(self.kept)

    def program(self, version):
        return self.version_of(version).program

    def paper(self, version):
        return self.version_of(version).paper

    def origin(self, version):
        return self.version_of(version).origin

    def edit(self, version, edit):
        """Make a version of the edited program and return its number."""
        old = self.version_of(version)
        program = apply(old.program, edit)
        self.check_room()
        made = Version(program, repair(program, carry(old.program, old.paper, edit)), ("edit", version, edit))
        self.keep(made, old.witness_inputs(), ("edit", version, edit))
        return len(self.kept)

    def offer(self, version, text):
        """Take the paper of a text for a version if it is accepted; return the complaints."""
        found = self.version_of(version)
        paper = read_paper(found.program, text)
        complaints = judge(found.program, paper)
        if complaints == ():
            found.accept(paper)
            self.entries.append(("offer", version, text))
        return complaints

    def merge(self, first, second):
        """Make a version of two edits of one version and return its number."""
        one = self.version_of(first)
        other = self.version_of(second)
        check_mergeable(first, second, one.origin, other.origin)
        base = self.version_of(one.origin[1])
        edit = rebase(base.program, other.origin[2], one.origin[2])
        program = apply(one.program, edit)
        self.check_room()
        made = Version(program, repair(program, carry(one.program, one.paper, edit)), ("merge", first, second))
        self.keep(made, one.witness_inputs() + other.witness_inputs(), ("merge", first, second))
        return len(self.kept)

    def try_inputs(self, version, inputs):
        """Run a version's program and return the ending; keep the inputs if they show a new failure."""
        ending, is_new = self.version_of(version).test(inputs)
        if is_new:
            self.entries.append(("try", version, inputs))
        return ending

    def witnesses(self, version):
        return tuple(self.version_of(version).witnesses)

    def report(self, version):
        """Return the claims of a version's paper, "broken" where there is a witness."""
        found = self.version_of(version)
        return report_rows(found.program, found.paper, found.witnesses)

    def changes(self, version):
        """Return the changes of an edited version's report against that of the old version."""
        origin = self.origin(version)
        if origin[0] != "edit":
            raise NotEdited()
        _, old, edit = origin
        return report_changes(self.program(old), edit, self.report(old), self.report(version))

    def journal(self):
        return tuple(self.entries)

    def version_of(self, number):
        """Return the version of this number, or raise NoVersion."""
        if not 1 <= number <= len(self.kept):
            raise NoVersion(number)
        return self.kept[number - 1]

    def check_room(self):
        if len(self.kept) == MOST_VERSIONS:
            raise Full()

    def keep(self, made, tries, entry):
        """Keep a new version that has tried these inputs, and note what made it."""
        for inputs in tries:
            made.test(inputs)
        self.kept.append(made)
        self.entries.append(entry)


def check_mergeable(first, second, origin, other_origin):
    """Raise NotMergeable if these are not two versions made by edits of one version."""
    if first == second or origin[0] != "edit" or origin[:2] != other_origin[:2]:
        raise NotMergeable()


def replay(journal):
    """Return a new workshop that has done the calls of a journal, or raise JournalProblem."""
    workshop = Workshop()
    for position, entry in enumerate(journal):
        if not is_repeated(workshop, entry):
            raise JournalProblem(position)
    return workshop


def is_repeated(workshop, entry):
    """Make the call of a journal's entry, and tell whether it was one without an error."""
    word = entry[0]
    try:
        if word == "begin":
            workshop.begin(entry[1])
        elif word == "edit":
            workshop.edit(entry[1], entry[2])
        elif word == "offer":
            return workshop.offer(entry[1], entry[2]) == ()
        elif word == "merge":
            workshop.merge(entry[1], entry[2])
        else:
            workshop.try_inputs(entry[1], entry[2])
    except ClaimError:
        return False
    return True
