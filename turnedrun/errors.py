"""The refusals; each one knows the place of what is wrong."""


class UndoError(ValueError):
    """Any refusal."""

    def __init__(self, at):
        # Only the place is told: what was refused may be anything, even a number too long to be written.
        ValueError.__init__(self, f"refused at {at}")
        self.at = at


class BadProgram(UndoError):
    """No list of 1 to 12 blocks."""


class BadRow(UndoError):
    """A row, a sum, a question or rows of no good form."""


class BadName(UndoError):
    """No name, or the name of no block, or of two."""


class BadNumber(UndoError):
    """No number where a thing is wanted."""


class OwnBox(UndoError):
    """A put whose box stands in its own sum."""


class TooDeep(UndoError):
    """A row at a level deeper than rows may stand."""


class BadLine(UndoError):
    """A line of a text that is wrong."""
