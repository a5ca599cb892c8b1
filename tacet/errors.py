"""The errors of the program."""


class TacetError(ValueError):
    """The base class of all errors of the program."""


class TooLarge(TacetError):
    """A result would be beyond a limit."""


class Stopped(TacetError):
    """A step was asked for where the state is STOP."""


class BadText(TacetError):
    """A string is not the text of anything."""


class BadNames(TacetError):
    """Two lists are not a renaming for a machine."""
