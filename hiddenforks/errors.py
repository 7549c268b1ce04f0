"""The errors of the package."""

from hiddenforks.plain import frozen


class BadStory(ValueError):
    """This is no STORY of the TIMETABLE."""


class Alone(ValueError):
    """A person cannot meet or tell itself."""

    def __init__(self, person):
        self.person = frozen(person)


class BadText(ValueError):
    """This line of a text is not written as it has to be."""

    def __init__(self, line):
        self.line = frozen(line)


class BadLine(ValueError):
    """This line of a sheet for the desk is not written as it has to be."""

    def __init__(self, number):
        self.number = frozen(number)


class NoPerson(LookupError):
    """There is no person of this number."""

    def __init__(self, number):
        self.number = frozen(number)


class NoLook(LookupError):
    """There is no LOOK of this number."""

    def __init__(self, number):
        self.number = frozen(number)


class NoEvent(LookupError):
    """There is no EVENT at this place."""

    def __init__(self, number):
        self.number = frozen(number)


class NoMeeting(LookupError):
    """No meet or tell stands at this place."""

    def __init__(self, index):
        self.index = frozen(index)


class NotAdded(LookupError):
    """Nobody has added this ENTRY yet."""

    def __init__(self, entry):
        self.entry = frozen(entry)


class NothingDone(RuntimeError):
    """There is no edit that could be taken back."""
