"""The errors that the functions and methods of this package raise."""


class ClaimError(ValueError):
    """The base class of all errors of this package."""


class SyntaxProblem(ClaimError):
    """A text is no program; line and column (from 1) tell where that shows."""

    def __init__(self, line, column):
        super().__init__(f"no program, seen at line {line}, column {column}")
        self.line = line
        self.column = column


class ProgramProblem(ClaimError):
    """A program breaks a rule; where is the name of a procedure or empty."""

    def __init__(self, where, reason):
        super().__init__(f"program problem in {where!r}: {reason}")
        self.where = where
        self.reason = reason


class PaperProblem(ClaimError):
    """A text is no paper of a program; line (from 1) tells where that shows."""

    def __init__(self, line):
        super().__init__(f"no paper of the program, seen at line {line}")
        self.line = line


class EditProblem(ClaimError):
    """An edit does not apply to a program."""

    def __init__(self, reason):
        super().__init__(f"edit does not apply: {reason}")
        self.reason = reason


class Clash(ClaimError):
    """Two edits of one program cannot be brought together."""

    def __init__(self, reason):
        super().__init__(f"edits clash: {reason}")
        self.reason = reason


class NoVersion(ClaimError):
    """A workshop has no version of this number."""

    def __init__(self, version):
        super().__init__(f"no version {version}")
        self.version = version


class JournalProblem(ClaimError):
    """The entry of a journal at this position (from 0) cannot be replayed."""

    def __init__(self, position):
        super().__init__(f"journal entry {position} cannot be replayed")
        self.position = position


class Full(ClaimError):
    """A workshop holds no more versions."""


class NotMergeable(ClaimError):
    """Two versions are not made by two edits of one version."""


class NotEdited(ClaimError):
    """A version was not made by an edit."""
