"""Plain values: what is a number, and tuples at every depth."""


def is_number(thing):
    """Whether thing is an int that is not a bool."""
    return isinstance(thing, int) and not isinstance(thing, bool)


def frozen(worth):
    """The same value with a tuple for each list and tuple in it."""
    if isinstance(worth, (list, tuple)):
        return tuple([frozen(part) for part in worth])
    return worth
