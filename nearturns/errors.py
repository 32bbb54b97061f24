"""The refusals of the program."""


class TurnError(ValueError):
    """Any refusal."""


class TooMany(TurnError):
    """A web or a number of places is too large for what is asked."""


class NoTie(TurnError):
    """Two things are not two tied places."""


class NoPlaces(TurnError):
    """The numbers of places do not fit what is asked."""


class NoName(TurnError):
    """No web is kept by a name."""


class BadNote(TurnError):
    """A text does not write what it should."""
