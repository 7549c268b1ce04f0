"""Timetables, heads and stories."""

from hiddenforks.plain import is_number

# The first ENTRY that nobody adds: from here on the log makes them up.
MADE_UP = 1000


def is_event(people, thing):
    """Whether thing is an EVENT among so many people."""
    if not isinstance(thing, tuple) or len(thing) < 2:
        return False
    if not all([is_number(person) and 0 <= person < people for person in thing[1:]]):
        return False
    if thing[0] in ("look", "add"):
        return len(thing) == 2
    if thing[0] in ("meet", "tell"):
        return len(thing) == 3 and thing[1] != thing[2]
    return False


def is_timetable(thing):
    """Whether thing is a TIMETABLE."""
    if not isinstance(thing, tuple) or len(thing) != 2:
        return False
    people, events = thing
    if not is_number(people) or people < 1 or not isinstance(events, tuple):
        return False
    return all([is_event(people, event) for event in events])


def is_head(thing):
    """Whether thing is a HEAD."""
    if not isinstance(thing, tuple):
        return False
    if not all([is_number(entry) and entry >= 0 for entry in thing]):
        return False
    return len(set(thing)) == len(thing)


def is_story(timetable, thing):
    """Whether thing is a STORY of the TIMETABLE."""
    shown = looks(timetable)
    if not isinstance(thing, tuple) or len(thing) != len(shown):
        return False
    if not all([is_head(head) for head in thing]):
        return False
    places = [place for place, _ in adds(timetable)]
    for (place, _), head in zip(shown, thing):
        many = len([at for at in places if at < place])
        if any([many <= entry < MADE_UP for entry in head]):
            return False
    return True


def looks(timetable):
    """The place and the person of each look."""
    return events_called("look", timetable)


def adds(timetable):
    """The place and the person of each add."""
    return events_called("add", timetable)


def events_called(word, timetable):
    """The place and the person of each EVENT with this word."""
    _, events = timetable
    return [(place, event[1]) for place, event in enumerate(events) if event[0] == word]


def begins(head, other):
    """Whether the other HEAD starts with this one, or is equal."""
    return tuple(other)[:len(head)] == tuple(head)


def comparable(head, other):
    """Whether one of the two HEADs begins the other one."""
    return begins(head, other) or begins(other, head)
