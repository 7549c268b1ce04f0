"""From whom an ENTRY that is shown at a LOOK can be kept."""

from hiddenforks.checks import check_looks, check_people
from hiddenforks.data import MADE_UP, adds, looks
from hiddenforks.errors import NotAdded
from hiddenforks.plain import choices, frozen, share
from hiddenforks.rules import alike_fact, facts_of, had_ahead, pairs_of
from hiddenforks.stories import unseen_story


def kept_from(timetable, kind, i):
    """The people from whom an ENTRY that is first shown at LOOK i can be kept."""
    check_looks(timetable, [i])
    people, _ = timetable
    return [person for person in range(people) if keep_story(timetable, kind, i, [person]) is not None]


def keep_story(timetable, kind, i, people):
    """An unseen STORY with an ENTRY that is first shown at LOOK i and kept from all these people, or None."""
    check_kept(timetable, i, people)
    return unseen_story(timetable, facts_of(timetable, kind), kept_apart(timetable, kind, i, people))


def keep_way(timetable, kind, i, people):
    """Whether a "delay" is enough for this, a "fork" is wanted, or there is "no" way."""
    check_kept(timetable, i, people)
    return way_with(timetable, kind, kept_apart(timetable, kind, i, people))


def known_at(timetable, kind, i, person):
    """The last place at which the person can come to know it; None if it can be kept from the person."""
    check_kept(timetable, i, [person])
    facts = facts_of(timetable, kind)
    rows = had_ahead(timetable, kind)
    late = [place for place, had in enumerate(rows)
            if unseen_story(timetable, facts, begins_none(i, list(range(i)) + had[person])) is not None]
    return late[-1] if late[-1] < len(rows) - 1 else None


def add_kept_from(timetable, kind, entry):
    """The people from whom an ENTRY that is added can be kept."""
    own = adds(timetable)
    if not 0 <= entry < len(own):
        raise NotAdded(entry)
    at, adder = own[entry]
    showing = [look for look, (place, person) in enumerate(looks(timetable)) if person == adder and place > at]
    if showing:
        # Only the adder's looks must show it: the first one as if it were first shown there, the others after it.
        return kept_from(timetable, kind, showing[0])
    people, _ = timetable
    return list(range(people))


def audiences(timetable, kind, i):
    """The sets of people that can be just those who come to know an ENTRY that is first shown at LOOK i."""
    check_looks(timetable, [i])
    had = had_ahead(timetable, kind)[-1]
    found = {}
    for among in showings(timetable, i):
        hearers = hearers_of(had, among)
        if hearers not in found and showing_story(timetable, kind, among) is not None:
            found[hearers] = True
    return sorted(list(found))


def shown_to(timetable, kind, i, people):
    """An unseen STORY with an ENTRY that is first shown at LOOK i and that just these people come to know, or None."""
    check_kept(timetable, i, people)
    had = had_ahead(timetable, kind)[-1]
    wanted = tuple(sorted(set(people)))
    for among in showings(timetable, i):
        if hearers_of(had, among) == wanted:
            story = showing_story(timetable, kind, among)
            if story is not None:
                entry = MADE_UP + len(story)
                return tuple([with_entry(head, among, entry) for head in story])
    return None


def keep_all(timetable, kind, wishes):
    """An unseen STORY that fulfils all WISHes; None if there is none."""
    check_wishes(timetable, wishes)
    return unseen_story(timetable, facts_of(timetable, kind), wished_apart(timetable, kind, wishes))


def wish_way(timetable, kind, wishes):
    """Whether a "delay" is enough for all WISHes, a "fork" is wanted, or there is "no" way."""
    check_wishes(timetable, wishes)
    return way_with(timetable, kind, wished_apart(timetable, kind, wishes))


def clash(timetable, kind, wishes):
    """As few of the WISHes as can be that cannot be fulfilled together; None if all can."""
    check_wishes(timetable, wishes)
    for some in choices(sorted(set(frozen(wishes)))):
        if keep_all(timetable, kind, some) is None:
            return some
    return None


def check_kept(timetable, i, people):
    """Raises NoLook, then NoPerson for the first of the people that is none."""
    check_looks(timetable, [i])
    check_people(timetable, people)


def check_wishes(timetable, wishes):
    """Raises NoLook or NoPerson for the first WISH that has no such LOOK or person."""
    for look, person in wishes:
        check_kept(timetable, look, [person])


def kept_apart(timetable, kind, look, people):
    """The pairs whose HEADs must not begin one another if it is first shown at this LOOK and kept from the people."""
    had = had_ahead(timetable, kind)[-1]
    return begins_none(look, list(range(look)) + [seen for person in people for seen in had[person]])


def wished_apart(timetable, kind, wishes):
    """The same pairs for all WISHes."""
    pairs = [pair for look, person in wishes for pair in kept_apart(timetable, kind, look, [person])]
    return {pair: True for pair in pairs}


def begins_none(look, others):
    """The pairs of this LOOK with each of the others, as a dict of True."""
    return {(look, other): True for other in others}


def way_with(timetable, kind, barred):
    """The word for how no HEAD can begin another one if their pair is in barred."""
    facts = facts_of(timetable, kind)
    if unseen_story(timetable, facts, barred) is None:
        return "no"
    for one, other in pairs_of(list(range(len(looks(timetable))))):
        facts[alike_fact(one, other)] = ()
    return "fork" if unseen_story(timetable, facts, barred) is None else "delay"


def showings(timetable, i):
    """The sets of LOOKs whose HEADs may be those with an ENTRY that is first shown at LOOK i."""
    return [(i,) + later for later in choices(list(range(i + 1, len(looks(timetable)))))]


def showing_story(timetable, kind, among):
    """An unseen STORY in which no HEAD of a LOOK of among begins one of another LOOK; None if there is none."""
    rest = [look for look in range(len(looks(timetable))) if look not in among]
    return unseen_story(timetable, facts_of(timetable, kind), {(look, other): True for look in among for other in rest})


def hearers_of(had, among):
    """The people who have one of these LOOKs."""
    return tuple([person for person, seen in enumerate(had) if share(seen, among)])


def with_entry(head, among, entry):
    """The HEAD with this ENTRY behind the first one that a LOOK of among began with."""
    for at, own in enumerate(head):
        if own - MADE_UP in among:
            return head[:at + 1] + (entry,) + head[at + 1:]
    return head
