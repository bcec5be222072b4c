"""The errors of the package, one class for each kind of failure."""


class NotJoined(ValueError):
    """This reader has neither joined nor loaded."""

    def __init__(self, reader):
        self.reader = reader


class BadPlace(ValueError):
    """Nobody can read, and no sweep can go, up to this place now."""

    def __init__(self, place):
        self.place = place


class Unfit(ValueError):
    """The EVENT with this time cannot come there."""

    def __init__(self, time):
        self.time = time


class CannotBe(ValueError):
    """The VIEW fits no TIMETABLE."""


class BadText(ValueError):
    """The line with this number is not what the text should have there."""

    def __init__(self, line):
        self.line = line


class BadLine(ValueError):
    """The line with this number of a sheet is not written as it must be, or cannot stand there."""

    def __init__(self, number):
        self.number = number


class NoCopy(LookupError):
    """There is no copy with this number."""

    def __init__(self, copy):
        self.copy = copy


class NoPair(LookupError):
    """This reader and this key are no pair of the TIMETABLE."""

    def __init__(self, reader, key):
        self.reader = reader
        self.key = key


class NoEvent(LookupError):
    """There is no EVENT at this time, or none can be put in there."""

    def __init__(self, time):
        self.time = time


class NothingDone(RuntimeError):
    """There is no edit to take back."""
