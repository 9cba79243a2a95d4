"""The errors of reachrows, each made from a text."""


class ReachError(ValueError):
    """What every error of reachrows is."""


class NoPart(ReachError):
    """What should be a part is none."""


class NoBook(ReachError):
    """What should be a book is none."""


class NoMachine(ReachError):
    """What should be a machine is none."""


class NoEven(ReachError):
    """A part that should be even is not."""


class NoForms(ReachError):
    """What should be forms of the part is none."""


class NoRow(ReachError):
    """What should be the number of a "jump" or "branch" row is none."""


class NoPlaced(ReachError):
    """What should be a placed list is none, or fits no part."""


class NoSize(ReachError):
    """What should be a size is none."""


class NoOrder(ReachError):
    """What should be an order of the book's parts is none."""


class NoRoom(ReachError):
    """What should be a room for each part is none."""


class NoIslands(ReachError):
    """What should be islands of the book's parts is none."""


class NoGoal(ReachError):
    """What should be the number of a part to go to is none."""


class NoEdits(ReachError):
    """What should be edits with which the book stays one is none."""


class NoNumber(ReachError):
    """What should be a number is none, or one out of bounds."""


class NoCells(ReachError):
    """What should be an image is none."""


class NoWrites(ReachError):
    """What should be a list of writes is none."""


class NoDoor(ReachError):
    """What should be the number of a part with a door is none."""


class NoTwin(ReachError):
    """There is no twin with the part."""


class NoLive(ReachError):
    """The book has no cells."""


class NoChange(ReachError):
    """A change cannot be made, or there is none to undo."""


class TooMany(ReachError):
    """There are too many rows to look at all their forms."""
