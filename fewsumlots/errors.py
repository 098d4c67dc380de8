"""The refusals: each is made with a text, and all stand straight under SetError."""


class SetError(ValueError):
    """Any refusal."""


class NoSet(SetError):
    """What was handed in is no set, or has too many numbers."""


class NoNumber(SetError):
    """What was handed in is no number that fits here."""


class NoSum(SetError):
    """What was handed in is no sum, or no number of sums, that comes."""


class NoRow(SetError):
    """What was handed in is no even row, or has too many numbers."""


class NoRound(SetError):
    """What was handed in is no size of a round."""


class NoMap(SetError):
    """What was handed in is no map of the set."""


class TooMany(SetError):
    """The set, or what would have to be looked at, is too large here."""


class NoText(SetError):
    """What was handed in is not written as a set or a row is."""


class NoDeed(SetError):
    """What was handed in is no row of text that the desk knows."""
