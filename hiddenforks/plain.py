"""Plain values: what is a number, tuples at every depth, and choices from a list."""


def is_number(thing):
    """Whether thing is an int that is not a bool."""
    return isinstance(thing, int) and not isinstance(thing, bool)


def frozen(worth):
    """The same value with a tuple for each list and tuple in it."""
    if isinstance(worth, (list, tuple)):
        return tuple([frozen(part) for part in worth])
    return worth


def choices(members):
    """The tuples of any of the members, in their order; of an ascending list by length, then ascending."""
    found = [()]
    for member in members:
        found = found + [chosen + (member,) for chosen in found]
    return [chosen for _, chosen in sorted([(len(chosen), chosen) for chosen in found])]


def share(members, others):
    """Whether some member is one of the others."""
    return any([member in others for member in members])
