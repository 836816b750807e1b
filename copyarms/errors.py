"""The errors that the package raises."""


class CopyError(ValueError):
    """The base class of all errors of the package."""


class InvalidSpot(CopyError):
    """Something in the place of a spot is none."""


class InvalidTurn(CopyError):
    """Something in the place of a turn is none."""


class InvalidTimes(CopyError):
    """A number of times is not an integer within its limits."""


class TooFew(CopyError):
    """There are no two different first spots among some pairs."""


class InvalidStroke(CopyError):
    """The stroke with this index is none."""

    def __init__(self, index):
        self.index = index


class OpenStroke(CopyError):
    """A stroke does not end where it begins."""


class InvalidReach(CopyError):
    """The reach of an arm is not one."""


class OutOfReach(CopyError):
    """An arm cannot trace a part of a stroke."""

    def __init__(self, arm, stroke, part):
        self.arm = arm
        self.stroke = stroke
        self.part = part


class TooMany(CopyError):
    """There are more strokes or arms than there can be."""


class InvalidSize(CopyError):
    """A limit or a count is not an integer within its limits."""


class InvalidBox(CopyError):
    """A box does not have the right number of arms."""


class Contradiction(CopyError):
    """No candidate would remain after an observation."""


class BadText(CopyError):
    """A word of a text is wrong, superfluous or missing."""

    def __init__(self, row, word):
        self.row = row
        self.word = word


class BadRow(CopyError):
    """A row of a script cannot be executed."""

    def __init__(self, row, reason):
        self.row = row
        self.reason = reason


class UnknownName(CopyError):
    """There is nothing of this name."""


class InvalidName(CopyError):
    """Something in the place of a name is none."""


class InvalidCode(CopyError):
    """An item of a code is missing, superfluous or cannot stand there."""

    def __init__(self, place):
        self.place = place


class UnknownArm(CopyError):
    """A box has no arm of this number."""


class NotFree(CopyError):
    """An arm cannot be joined or taken off."""


class InvalidOperation(CopyError):
    """An operation of a list is malformed or fails."""

    def __init__(self, place):
        self.place = place
