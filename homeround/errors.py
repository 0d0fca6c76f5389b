"""The refusals, each of a class of its own."""


class RoundError(ValueError):
    """Any refusal."""


class NotEven(RoundError):
    """Some way back is not as long as the way there."""


class NotStraight(RoundError):
    """Some way is longer than two others that lead there."""


class TooFew(RoundError):
    """There are too few places."""


class TooMany(RoundError):
    """There are too many places."""


class NoTable(RoundError):
    """There is no such table."""


class NoBack(RoundError):
    """There is nothing to go back behind."""


class NoRow(RoundError):
    """A desk takes no such row."""


class NoText(RoundError):
    """A text writes no table; at is the number of the word by which this is plain."""

    def __init__(self, at):
        RoundError.__init__(self, f"no table is written so: word {at}")
        self.at = at
