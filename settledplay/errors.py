"""All errors that the package raises."""


class PlayError(ValueError):
    """What is common to the errors that tell that a value is of the wrong form."""


class InvalidText(PlayError):
    """No text of signs."""


class InvalidLuck(PlayError):
    """No luck."""


class InvalidWorld(PlayError):
    """No world, or none of the game."""


class InvalidGame(PlayError):
    """No sound game."""


class InvalidPlace(PlayError):
    """No place that a run could read."""


class InvalidRecord(PlayError):
    """No record of a run."""


class InvalidWord(PlayError):
    """No key word, or no joint word of the game."""


class InvalidRow(PlayError):
    """No row of joint words."""


class InvalidSetup(PlayError):
    """No setup of a match."""


class InvalidLetter(PlayError):
    """No letter."""


class InvalidDisk(PlayError):
    """No disk."""


class InvalidBox(PlayError):
    """No box, no arena, or no tuple of boxes."""


class InvalidTape(PlayError):
    """No tape."""


class InvalidStanding(PlayError):
    """No standing of a match."""


class InvalidAct(PlayError):
    """No act that the standing can take."""


class InvalidPaper(PlayError):
    """No paper."""


class InvalidOperation(PlayError):
    """A call with arguments that do not go together."""


class ParseError(PlayError):
    """A text that tells nothing; it keeps the spot where it goes wrong."""

    def __init__(self, spot):
        self.spot = spot


class InvalidNumber(IndexError):
    """An integer out of its bounds, or none; it keeps what was given."""

    def __init__(self, given):
        self.given = given


class UnknownName(KeyError):
    """A name or an id of nothing; it keeps what was wanted."""

    def __init__(self, wanted):
        self.wanted = wanted


class TooMany(OverflowError):
    """More than there may be; it keeps the limit."""

    def __init__(self, limit):
        self.limit = limit


class Refused(ArithmeticError):
    """A call that cannot be done now; it keeps the reason, a tuple whose first member is a word."""

    def __init__(self, reason):
        self.reason = reason
