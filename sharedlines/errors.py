"""The errors of the package."""


class LineError(ValueError):
    """The base class of all errors.

    The wordings below are fixed: the values may be anything, and Python
    refuses to show some of them (integers with thousands of digits).
    """


class BadCells(LineError):
    """The cells are no dict from one to six names to sizes."""


class BadRoom(LineError):
    """The room is no integer from 1 to 32."""


class BadLines(LineError):
    """The lines do not put each cell into just one line with room for it."""


class UnknownCell(LineError):
    """There is no such cell in the layout."""

    def __init__(self, cell):
        super().__init__("the layout does not have this cell")
        self.cell = cell


class InvalidText(LineError):
    """A row of the text of a program is not right."""

    def __init__(self, row):
        super().__init__("a row of the program is not right")
        self.row = row


class BadState(LineError):
    """The value is no state."""


class BadRun(LineError):
    """Something in a run is no step there."""

    def __init__(self, index):
        super().__init__("something in the run is no step there")
        self.index = index


class TooManyStates(LineError):
    """More states can be reached than are looked at."""


class OtherCells(LineError):
    """Two layouts do not have the same cells with sizes."""


class NoLayout(LineError):
    """No layout is as asked for."""


class BadLine(LineError):
    """The cell cannot be moved to a line of this number."""


class TooManyThreads(LineError):
    """There is no place for one more thread."""


class NameTaken(LineError):
    """A thread of this name is there already."""

    def __init__(self, name):
        super().__init__("a thread of this name is there already")
        self.name = name


class UnknownThread(LineError):
    """There is no such thread."""

    def __init__(self, name):
        super().__init__("there is no such thread")
        self.name = name


class BadTarget(LineError):
    """The thread cannot go to this target."""


class UnknownMark(LineError):
    """There is no mark of this number."""

    def __init__(self, number):
        super().__init__("there is no mark of this number")
        self.number = number


class BadOdds(LineError):
    """The odds are no list with one integer from 1 to 9 for each thread."""


class BadMixture(LineError):
    """The pairs are no mixture."""


class Picked(LineError):
    """A thread is picked already."""


class NotPicked(LineError):
    """No thread is picked."""


class NothingDone(LineError):
    """Nothing was done that could be taken back."""


class BadReport(LineError):
    """The moves of a report fit none of the layouts that are possible."""
