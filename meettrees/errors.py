"""All errors of the package.

Each class but those below Missing stands directly below MeetError, so that catching one never catches another.
"""


class MeetError(ValueError):
    """The base of all errors of the package."""


class BadNumber(MeetError):
    """No such integer, or no such list of integers."""

    def __init__(self, part):
        self.part = part


class BadBlock(MeetError):
    """No block, or no list of blocks."""

    def __init__(self, part):
        self.part = part


class BadRow(MeetError):
    """No row, or no list of rows."""

    def __init__(self, part):
        self.part = part


class BadPath(MeetError):
    """No path."""

    def __init__(self, part):
        self.part = part


class BadValue(MeetError):
    """No value of a path."""

    def __init__(self, part):
        self.part = part


class BadTree(MeetError):
    """No tree."""

    def __init__(self, part):
        self.part = part


class BadDeed(MeetError):
    """No plain deed."""

    def __init__(self, part):
        self.part = part


class BadEvent(MeetError):
    """No event."""

    def __init__(self, part):
        self.part = part


class BadHeard(MeetError):
    """Nothing that can be heard."""

    def __init__(self, part):
        self.part = part


class BadLot(MeetError):
    """No lot."""

    def __init__(self, part):
        self.part = part


class BadLetter(MeetError):
    """No letter."""

    def __init__(self, part):
        self.part = part


class BadMachine(MeetError):
    """No machine."""

    def __init__(self, part):
        self.part = part


class BadDisk(MeetError):
    """No disk."""

    def __init__(self, part):
        self.part = part


class BadWorld(MeetError):
    """No world."""

    def __init__(self, part):
        self.part = part


class BadStep(MeetError):
    """No step of a world."""

    def __init__(self, part):
        self.part = part


class BadPaper(MeetError):
    """No paper of the class that is asked for."""

    def __init__(self, part):
        self.part = part


class Misfit(MeetError):
    """What is passed does not fit together."""

    def __init__(self, part):
        self.part = part


class Missing(MeetError):
    """A value that is none here; only the classes below it are raised."""

    def __init__(self, value):
        self.value = value


class NoEvent(Missing):
    """No id of an event that is heard."""


class NoChange(Missing):
    """No id of a change that is heard."""


class NoMachine(Missing):
    """No number of a machine."""


class Refused(MeetError):
    """A deed that a tree does not let."""

    def __init__(self, why, path):
        self.why = why
        self.path = path


class TooMany(MeetError):
    """There are more than most."""

    def __init__(self, what, most):
        self.what = what
        self.most = most


class Full(MeetError):
    """There is no room left on a disk."""


class Off(MeetError):
    """A machine is off."""


class On(MeetError):
    """A machine is on."""


class Nothing(MeetError):
    """There is nothing to be done."""


class BadText(MeetError):
    """A text that cannot stand; line is 0 where there is one alone."""

    def __init__(self, line, item):
        self.line = line
        self.item = item


class BadLine(MeetError):
    """A line, and the error that was raised there."""

    def __init__(self, line, error):
        self.line = line
        self.error = error
