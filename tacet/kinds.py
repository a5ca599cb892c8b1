"""Questions about values of any kind."""


def is_within(value, least, greatest):
    """Return True if the value is an integer (so not a bool) from least to greatest."""
    return isinstance(value, int) and not isinstance(value, bool) and least <= value <= greatest


def is_tuple(value, least, greatest):
    """Return True if the value is a tuple that has from least to greatest items."""
    return isinstance(value, tuple) and least <= len(value) <= greatest
