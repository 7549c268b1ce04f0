"""Liars and lost meetings: how many of them it takes until two LOOKs are hidden."""

from hiddenforks.checks import check_looks, check_meetings, check_people, meetings
from hiddenforks.data import looks
from hiddenforks.errors import NoLook
from hiddenforks.forks import hidden, hidden_pairs
from hiddenforks.plain import choices, is_number, share


def remaining(timetable, liars, lost):
    """The TIMETABLE without what liars take part in, but their adds, and without what is lost."""
    check_people(timetable, liars)
    check_meetings(timetable, lost)
    people, events = timetable
    left = [tuple(event) for place, event in enumerate(events)
            if place not in lost and (event[0] == "add" or not share(event[1:], liars))]
    return people, tuple(left)


def look_left(timetable, liars, look):
    """The number that a LOOK has if these are liars."""
    check_people(timetable, liars)
    check_looks(timetable, [look])
    honest = [person not in liars for _, person in looks(timetable)]
    if not honest[look]:
        raise NoLook(look)
    return sum([1 for one in honest[:look] if one])


def nets(timetable, kind, i, j):
    """The least sets of meets and tells that are enough for both LOOKs not to be hidden."""
    check_looks(timetable, [i, j])
    return nets_beside(timetable, kind, i, j, ())


def nets_beside(timetable, kind, i, j, liars):
    """The nets if these are liars, with the places of the whole TIMETABLE."""
    places = honest_meetings(timetable, liars)
    found = []
    for kept in choices(places):
        if not holds_one(kept, found) and not hides(timetable, kind, i, j, liars, without(places, kept)):
            found.append(kept)
    return found


def circles(timetable, kind, i, j):
    """The least sets of further people that are enough for both LOOKs not to be hidden."""
    check_looks(timetable, [i, j])
    others = other_people(timetable, i, j)
    found = []
    for kept in choices(others):
        if not holds_one(kept, found) and not hides(timetable, kind, i, j, without(others, kept), ()):
            found.append(kept)
    return found


def least_lost(timetable, kind, i, j):
    """As few meets and tells as can be with which lost it hides; None if nothing hides it."""
    return first_hitting(meetings(timetable), nets(timetable, kind, i, j))


def least_liars(timetable, kind, i, j):
    """As few liars as can be with whom it hides; None if nothing hides it."""
    found = circles(timetable, kind, i, j)
    return first_hitting(other_people(timetable, i, j), found)


def lost_paper(timetable, kind, i, j):
    """Nets, as few as can be, which show that fewer than least_lost will not do; None if nothing hides it."""
    found = sorted(nets(timetable, kind, i, j))
    lost = first_hitting(meetings(timetable), found)
    if lost is None:
        return None
    smaller = [some for some in choices(meetings(timetable)) if len(some) + 1 == len(lost)]
    shown = None
    many = 0
    while shown is None:
        shown = paper_of(found, smaller, many)
        many += 1
    return shown


def paper_of(found, open_sets, many):
    """The least tuple of so many of the nets that leaves no open set with a member of each; None if there is none."""
    if many == 0:
        return None if open_sets else ()
    missing = [len([some for some in open_sets if not share(some, net)]) for net in found]
    if sum(sorted(missing, reverse=True)[:many]) < len(open_sets):
        # Not even the nets that most of the open sets have no member of would be enough.
        return None
    for at, first in enumerate(found):
        rest = paper_of(found[at + 1:], [one for one in open_sets if share(one, first)], many - 1)
        if rest is not None:
            return (first,) + rest
    return None


def shows_least(timetable, kind, i, j, lost, thing):
    """Whether it hides with what is lost, and thing is a tuple of nets which show that fewer will not do."""
    check_looks(timetable, [i, j])
    check_meetings(timetable, lost)
    found = nets(timetable, kind, i, j)
    if not hits_all(lost, found) or not is_net_tuple(found, thing):
        return False
    smaller = [some for some in choices(meetings(timetable)) if len(some) < len(lost)]
    return not any([hits_all(some, thing) for some in smaller])


def is_net_tuple(found, thing):
    """Whether thing is an ascending tuple of some of the nets that were found."""
    if not isinstance(thing, tuple) or not all([isinstance(net, tuple) for net in thing]):
        return False
    if not all([is_number(place) for net in thing for place in net]):
        return False
    return all([net in found for net in thing]) and list(thing) == sorted(set(thing))


def faults(timetable, kind, i, j, many):
    """Liars, at most so many, and lost meets and tells with which together it hides; None if there are none."""
    check_looks(timetable, [i, j])
    ways = [(len(lost), len(liars), liars, lost) for liars, lost in ways_to_hide(timetable, kind, i, j, many)]
    return min(ways)[2:] if ways else None


def ways_to_hide(timetable, kind, i, j, many):
    """For any liars, at most so many, that can hide it: the liars, and the least that is lost then."""
    others = other_people(timetable, i, j)
    ways = []
    for liars in [some for some in choices(others) if len(some) <= many]:
        found = nets_beside(timetable, kind, i, j, liars)
        lost = first_hitting(honest_meetings(timetable, liars), found)
        if lost is not None:
            ways.append((liars, lost))
    return ways


def frontier(timetable, kind, i, j):
    """How many liars and how many lost can hide it, but with fewer of one only with more of the other."""
    check_looks(timetable, [i, j])
    people, _ = timetable
    sizes = sorted([(len(liars), len(lost)) for liars, lost in ways_to_hide(timetable, kind, i, j, people)])
    found = []
    for size in sizes:
        if not found or size[1] < found[-1][1]:
            found.append(size)
    return found


def fragile(timetable, kind, many):
    """The pairs of LOOKs that hide if at most so many meets and tells are lost."""
    found = {}
    for lost in [some for some in choices(meetings(timetable)) if len(some) <= many]:
        for pair in hidden_pairs(remaining(timetable, [], lost), kind):
            found[pair] = True
    return sorted(list(found))


def hides(timetable, kind, i, j, liars, lost):
    """Whether both LOOKs are hidden in what liars and losses leave."""
    left = remaining(timetable, liars, lost)
    return hidden(left, kind, look_left(timetable, liars, i), look_left(timetable, liars, j))


def other_people(timetable, i, j):
    """All but those whose LOOKs these two are."""
    people, _ = timetable
    shown = looks(timetable)
    own = [shown[look][1] for look in (i, j)]
    return [person for person in range(people) if person not in own]


def honest_meetings(timetable, liars):
    """The places of the meets and tells in which no liar takes part."""
    _, events = timetable
    return [place for place in meetings(timetable) if not share(events[place][1:], liars)]


def without(members, some):
    """The members but some."""
    return [member for member in members if member not in some]


def holds_one(kept, found):
    """Whether all of a set that was found before is in what is kept."""
    return any([all([member in kept for member in one]) for one in found])


def first_hitting(members, found):
    """The first choice from the members that hits all that was found; None if there is none."""
    for some in choices(members):
        if hits_all(some, found):
            return some
    return None


def hits_all(some, found):
    """Whether some has a member of each set that was found."""
    return all([share(some, one) for one in found])
