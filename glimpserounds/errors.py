"""The errors of the package: three bases, and one class for each kind of failure."""


class WrongValue(ValueError):
    """A value is not of the kind or form that is asked for."""

    def __init__(self):
        pass


class NotASign(WrongValue):
    """What was given is no Sign."""

    def __init__(self, given):
        self.given = given


class NotARecord(WrongValue):
    """What was given is no Record, or no told of one."""

    def __init__(self, given):
        self.given = given


class InvalidText(WrongValue):
    """What was given is no text of a sign."""

    def __init__(self, given):
        self.given = given


class InvalidPace(WrongValue):
    """What was given is no pace."""

    def __init__(self, given):
        self.given = given


class InvalidWidth(WrongValue):
    """What was given is no width of a window."""

    def __init__(self, given):
        self.given = given


class InvalidPlace(WrongValue):
    """What was given is no place of the window."""

    def __init__(self, given):
        self.given = given


class InvalidLength(WrongValue):
    """What was given is no length, or none that is let here."""

    def __init__(self, given):
        self.given = given


class InvalidTime(WrongValue):
    """What was given is no time."""

    def __init__(self, given):
        self.given = given


class InvalidWindow(WrongValue):
    """What was given is no reading of the window."""

    def __init__(self, given):
        self.given = given


class InvalidName(WrongValue):
    """What was given is no name."""

    def __init__(self, given):
        self.given = given


class InvalidClaim(WrongValue):
    """What was given is no claim."""

    def __init__(self, given):
        self.given = given


class InvalidIndex(WrongValue):
    """What was given is no index of a claim."""

    def __init__(self, given):
        self.given = given


class InvalidLine(WrongValue):
    """What was given is no line of the console."""

    def __init__(self, given):
        self.given = given


class InvalidDead(WrongValue):
    """The dead places are wrong from this index on."""

    def __init__(self, index):
        self.index = index


class InvalidPaces(WrongValue):
    """The paces are wrong from this index on."""

    def __init__(self, index):
        self.index = index


class InvalidGroups(WrongValue):
    """The groups are wrong from this index on."""

    def __init__(self, index):
        self.index = index


class InvalidTimes(WrongValue):
    """The times are wrong from this index on."""

    def __init__(self, index):
        self.index = index


class InvalidDeeds(WrongValue):
    """The deeds are wrong from this index on."""

    def __init__(self, index):
        self.index = index


class WrongName(LookupError):
    """A name cannot be used in this way."""

    def __init__(self):
        pass


class UnknownName(WrongName):
    """What was given is no name of the book."""

    def __init__(self, given):
        self.given = given


class InUse(WrongName):
    """The claim with this index names the record."""

    def __init__(self, index):
        self.index = index


class NoAnswer(ArithmeticError):
    """The arguments are right, but together they have no answer."""

    def __init__(self):
        pass


class TooMany(NoAnswer):
    """There are, or would be, more than the most that are let."""

    def __init__(self, most):
        self.most = most


class OtherKind(NoAnswer):
    """The record that was given does not go with this one."""

    def __init__(self, given):
        self.given = given


class Broken(NoAnswer):
    """The claim with this index would fail."""

    def __init__(self, index):
        self.index = index


class NothingToUndo(NoAnswer):
    """No change is left that could be taken back."""
