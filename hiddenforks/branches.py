"""How many LOOKs can be unlike at once, and which meets and tells can be spared."""

from hiddenforks.checks import check_pairs, meetings
from hiddenforks.data import looks
from hiddenforks.faults import remaining, without
from hiddenforks.forks import hidden_pairs
from hiddenforks.plain import choices, is_number
from hiddenforks.rules import alike_fact, all_facts, direct_facts, drawn_pairs, facts_of, pairs_of
from hiddenforks.stories import cannot_begin, first_of, parts_of, unseen_story


def most_branches(timetable, kind):
    """As many LOOKs as can be, no two of them alike."""
    facts = facts_of(timetable, kind)
    best = ()
    for some in choices(list(range(len(looks(timetable))))):
        if len(some) > len(best) and not any([alike_fact(one, other) in facts for one, other in pairs_of(some)]):
            best = some
    return best


def course(timetable, kind):
    """For each EVENT how many LOOKs most_branches would tell if nothing came behind it."""
    people, events = timetable
    return [len(most_branches((people, events[:place + 1]), kind)) for place in range(len(events))]


def together(timetable, kind, pairs, alike=()):
    """Whether some unseen STORY has the pairs unlike and those of alike comparable."""
    return story_of(timetable, kind, pairs, alike) is not None


def story_of(timetable, kind, pairs, alike=()):
    """An unseen STORY with the pairs unlike and those of alike comparable; None if there is none."""
    check_pairs(timetable, list(pairs) + list(alike))
    return unseen_story(timetable, wished_facts(timetable, kind, alike), both_ways(pairs))


def knot(timetable, kind, pairs, alike=()):
    """The fewest LOOKs for which these wishes cannot be fulfilled; None if they can."""
    check_pairs(timetable, list(pairs) + list(alike))
    facts = wished_facts(timetable, kind, alike)
    drawn = drawn_pairs(timetable)
    barred = both_ways(pairs)
    for some in choices(list(range(len(looks(timetable))))):
        if is_stuck(some, facts, drawn, barred):
            return some
    return None


def is_knot(timetable, kind, pairs, alike, thing):
    """Whether thing is an ascending tuple of LOOKs that hang together, and none of them can begin all others."""
    check_pairs(timetable, list(pairs) + list(alike))
    many = len(looks(timetable))
    if not isinstance(thing, tuple) or not all([is_number(look) and 0 <= look < many for look in thing]):
        return False
    if list(thing) != sorted(set(thing)):
        return False
    return is_stuck(thing, wished_facts(timetable, kind, alike), drawn_pairs(timetable), both_ways(pairs))


def most_pairs(timetable, kind):
    """As many pairs of LOOKs as can be unlike in one unseen STORY."""
    facts = facts_of(timetable, kind)
    drawn = drawn_pairs(timetable)
    every = tuple(range(len(looks(timetable))))
    best = {}
    for some in choices(every):
        parts = parts_of(some, facts)
        if len(parts) == 1:
            best[some] = best_below(some, best, facts, drawn)
        else:
            best[some] = best_beside(parts, best)
    return best[every]


def best_below(some, best, facts, drawn):
    """The most pairs that can be unlike among LOOKs that hang together: one begins all others."""
    ways = []
    for first in some:
        if not any([cannot_begin(first, other, facts, drawn, {}) for other in some]):
            unlike = best[tuple([look for look in some if look != first])]
            ways.append((-len(unlike), unlike))
    return min(ways)[1]


def best_beside(parts, best):
    """The most pairs that can be unlike among parts: all between two parts, and the most in each."""
    within = [pair for part in parts for pair in best[tuple(part)]]
    between = [(one, other) for part in parts for one in part for beside in parts if beside != part for other in beside
               if one < other]
    return tuple(sorted(within + between))


def spare(timetable, kind):
    """The places of the meets and tells that can each be left out without hiding anything more."""
    before = hidden_pairs(timetable, kind)
    return [place for place in meetings(timetable) if hidden_pairs(remaining(timetable, [], [place]), kind) == before]


def least_same(timetable, kind):
    """As few meets and tells as can be that hide nothing more if all others are left out."""
    before = hidden_pairs(timetable, kind)
    places = meetings(timetable)
    for kept in choices(places):
        if hidden_pairs(remaining(timetable, [], without(places, kept)), kind) == before:
            return kept
    # Not reached: all of them together hide nothing more.
    return tuple(places)


def wished_facts(timetable, kind, alike):
    """All FACTs, with the pairs of alike counted as alike from the beginning."""
    direct = direct_facts(timetable, kind)
    for one, other in alike:
        direct[alike_fact(one, other)] = ()
    return all_facts(direct, len(looks(timetable)), drawn_pairs(timetable))


def both_ways(pairs):
    """Each pair in both orders, as a dict of True."""
    return {pair: True for one, other in pairs for pair in ((one, other), (other, one))}


def is_stuck(some, facts, drawn, barred):
    """Whether these LOOKs hang together and none of them can begin all others (one alone always can)."""
    return len(parts_of(some, facts)) == 1 and first_of(some, facts, drawn, barred) is None
