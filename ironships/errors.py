"""The errors of the package. Each stands under CompassError alone and keeps whatever it is made with."""


class CompassError(ValueError):
    """What all errors of the package stand under."""


class InvalidFraction(CompassError):
    """What was given is no fraction, or none that is let there."""

    def __init__(self, given):
        self.given = given


class InvalidNumber(CompassError):
    """What was given is no whole number that is let there."""

    def __init__(self, given):
        self.given = given


class InvalidIndex(CompassError):
    """What was given is no index of what it is to count."""

    def __init__(self, given):
        self.given = given


class InvalidSurd(CompassError):
    """What was given is no surd."""

    def __init__(self, given):
        self.given = given


class InvalidHeading(CompassError):
    """What was given is no heading."""

    def __init__(self, given):
        self.given = given


class InvalidCourse(CompassError):
    """What was given is no course."""

    def __init__(self, given):
        self.given = given


class InvalidWave(CompassError):
    """What was given is no wave."""

    def __init__(self, given):
        self.given = given


class InvalidIron(CompassError):
    """What was given is no iron."""

    def __init__(self, given):
        self.given = given


class InvalidPiece(CompassError):
    """What was given is no piece."""

    def __init__(self, given):
        self.given = given


class InvalidPlace(CompassError):
    """What was given is no place."""

    def __init__(self, given):
        self.given = given


class InvalidFive(CompassError):
    """What was given is no five."""

    def __init__(self, given):
        self.given = given


class InvalidForce(CompassError):
    """What was given is no force: no fraction above 0."""

    def __init__(self, given):
        self.given = given


class InvalidReading(CompassError):
    """What was given is no reading."""

    def __init__(self, given):
        self.given = given


class InvalidName(CompassError):
    """What was given is no name."""

    def __init__(self, given):
        self.given = given


class InvalidWish(CompassError):
    """What was given is no wish."""

    def __init__(self, given):
        self.given = given


class InvalidPhrase(CompassError):
    """What was given is no line that a console understands."""

    def __init__(self, given):
        self.given = given


class UnknownName(CompassError):
    """What was given is the name of no iron here."""

    def __init__(self, given):
        self.given = given


class NotAWorkshop(CompassError):
    """What was given is no workshop."""

    def __init__(self, given):
        self.given = given


class HighBelowLow(CompassError):
    """The higher bound, which was given, is below the lower one."""

    def __init__(self, given):
        self.given = given


class InvalidReadings(CompassError):
    """These are no readings; the index is that of the first wrong one."""

    def __init__(self, index):
        self.index = index


class InvalidSea(CompassError):
    """This is no sea; the index is that of the first wrong mark."""

    def __init__(self, index):
        self.index = index


class InvalidBox(CompassError):
    """This is no box; the index is that of the first wrong pair."""

    def __init__(self, index):
        self.index = index


class InvalidCounts(CompassError):
    """These are no counts for the box; the index is that of the first wrong one."""

    def __init__(self, index):
        self.index = index


class InUse(CompassError):
    """The name is in use; the index is that of the first wish that names it."""

    def __init__(self, index):
        self.index = index


class Broken(CompassError):
    """A wish would not hold; the index is its own."""

    def __init__(self, index):
        self.index = index


class TooMuchIron(CompassError):
    """What would be made has no strength above 0, and so is no iron."""


class NotAhead(CompassError):
    """A five is not ahead."""


class SameDip(CompassError):
    """Both places have the same Z."""


class NoneFits(CompassError):
    """No five fits the readings."""


class NothingToUndo(CompassError):
    """There is no change to take back."""
