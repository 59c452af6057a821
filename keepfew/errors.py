"""The refusals."""


class KeepError(ValueError):
    """Any refusal."""


class BadName(KeepError):
    """This is no name of a thing."""


class BadPlaces(KeepError):
    """No shelf has this for its number of places."""


class BadRule(KeepError):
    """No shelf goes by this rule."""


class BadWishes(KeepError):
    """This is no list of wishes."""
