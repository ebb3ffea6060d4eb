"""All refusals of the package."""


class WeaveError(ValueError):
    """Any refusal."""


class BadPiece(WeaveError):
    """What was handed in as a piece is no piece."""


class BadNumber(WeaveError):
    """A number is no whole number, or not within its limits."""


class BadTheme(WeaveError):
    """What was handed in as a theme is no theme."""


class BadEntry(WeaveError):
    """What was handed in as an entry is no entry of the piece."""


class OutOfRange(WeaveError):
    """A note that would come of it is no note."""


class Uneven(WeaveError):
    """A start or a long cannot be parted without a rest."""


class Clash(WeaveError):
    """Two notes of one voice would sound at one time."""


class NoText(WeaveError):
    """What was handed in is not the text of a piece."""
