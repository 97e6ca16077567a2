"""The refusals: one base, and each other one straight under it."""


class SootError(ValueError):
    """Any refusal."""


class NoCell(SootError):
    """A thing is no cell, or not one that is there."""


class Twice(SootError):
    """A cell stands twice."""


class NoCoal(SootError):
    """The cells make no coal."""


class NoNumber(SootError):
    """There is nothing of this number."""


class NoWord(SootError):
    """A text is not the word of a rim."""


class NoPairing(SootError):
    """A thing is no pairing of the coal."""


class Unpaired(SootError):
    """The coal has no pairing."""


class NoTable(SootError):
    """The rows are not as long as they are many."""


class NoTurn(SootError):
    """The cell can't be turned."""


class NoText(SootError):
    """A text is not written as it is due."""


class NoRow(SootError):
    """A row is none that the desk knows."""
