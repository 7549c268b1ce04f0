"""Which forks stay unseen."""

from hiddenforks.checks import check_looks
from hiddenforks.data import looks
from hiddenforks.plain import is_number
from hiddenforks.rules import alike_fact, direct_facts, drawn_pairs, facts_of, made_from, needed_for, pairs_of
from hiddenforks.stories import unseen_story


def alikes(timetable, kind):
    """The pairs of LOOKs that are shown alike by the rules, the lesser one first."""
    return pairs_called("alike", timetable, kind)


def leads(timetable, kind):
    """The pairs (one, other) of LOOKs of which one is shown to lead to other."""
    return pairs_called("begins", timetable, kind)


def pairs_called(word, timetable, kind):
    """The pairs of LOOKs of the FACTs with this word."""
    facts = facts_of(timetable, kind)
    return sorted([(one, other) for named, one, other in facts if named == word])


def hidden(timetable, kind, i, j):
    """Whether two LOOKs are unlike in some unseen STORY."""
    check_looks(timetable, [i, j])
    return alike_fact(i, j) not in facts_of(timetable, kind)


def hidden_pairs(timetable, kind):
    """The pairs of LOOKs that are hidden, the lesser one first."""
    facts = facts_of(timetable, kind)
    every = pairs_of(list(range(len(looks(timetable)))))
    return [(one, other) for one, other in every if alike_fact(one, other) not in facts]


def fork(timetable, kind, i, j):
    """An unseen STORY in which both LOOKs are unlike; None if there is none."""
    check_looks(timetable, [i, j])
    return unseen_story(timetable, facts_of(timetable, kind), {(i, j): True, (j, i): True})


def seen_at(timetable, kind, i, j):
    """The place of the first EVENT behind which both LOOKs are not hidden; None if they are."""
    check_looks(timetable, [i, j])
    people, events = timetable
    for place in range(len(events)):
        if alike_fact(i, j) in facts_of((people, events[:place + 1]), kind):
            return place
    return None


def paper(timetable, kind, i, j):
    """FACTs, each by a rule from those ahead of it, up to this: both LOOKs are alike; None if they are hidden."""
    check_looks(timetable, [i, j])
    facts = facts_of(timetable, kind)
    goal = alike_fact(i, j)
    if goal not in facts:
        return None
    needed = needed_for(goal, facts)
    return tuple([fact for fact in facts if fact in needed])


def shows_seen(timetable, kind, i, j, thing):
    """Whether thing is such a tuple of FACTs as paper returns."""
    check_looks(timetable, [i, j])
    many = len(looks(timetable))
    if not isinstance(thing, tuple) or not all([is_fact(many, fact) for fact in thing]):
        return False
    told = [in_order(fact) for fact in thing]
    return follows(timetable, kind, told) and told[-1:] == [alike_fact(i, j)]


def follows(timetable, kind, told):
    """Whether each FACT is by the rules (1), (2), or by one rule from those ahead of it."""
    direct = direct_facts(timetable, kind)
    drawn = drawn_pairs(timetable)
    many = len(looks(timetable))
    ahead = {}
    for fact in told:
        if fact not in direct and fact not in [made for made, _ in made_from(ahead, many, drawn)]:
            return False
        ahead[fact] = True
    return True


def is_fact(many, thing):
    """Whether thing is a FACT of so many LOOKs."""
    if not isinstance(thing, tuple) or len(thing) != 3 or thing[0] not in ("alike", "begins"):
        return False
    if not all([is_number(look) and 0 <= look < many for look in thing[1:]]):
        return False
    return thing[1] != thing[2]


def in_order(fact):
    """The FACT, with the lesser LOOK first if the order does not matter."""
    word, one, other = fact
    return alike_fact(one, other) if word == "alike" else fact
