"""Plans of meetings behind which everybody, or somebody of any two LOOKs, has got all."""

from hiddenforks.plain import frozen, is_number
from hiddenforks.rules import joined, pairs_of


def known_by(people, way, plan):
    """The LOOKs that each person gets."""
    known = [[person] for person in range(people)]
    for p, q in plan:
        both = joined(known[p], known[q])
        known[q] = both
        if way == "meet":
            known[p] = list(both)
    return known


def unknown_pairs(people, way, plan):
    """The pairs of LOOKs of which nobody gets both."""
    known = known_by(people, way, plan)
    return [pair for pair in pairs_of(list(range(people))) if not any([has_both(seen, pair) for seen in known])]


def has_both(seen, pair):
    """Whether both LOOKs of the pair are among these."""
    return pair[0] in seen and pair[1] in seen


def reaches(people, way, plan, goal):
    """Whether the PLAN does it."""
    return against(people, way, plan, goal) is None


def against(people, way, plan, goal):
    """None if the PLAN does it; otherwise the least pair that nobody gets, or that somebody does not get, and who."""
    if goal == "somebody":
        left = unknown_pairs(people, way, plan)
    else:
        known = known_by(people, way, plan)
        left = [(pair, person) for pair in pairs_of(list(range(people))) for person in range(people)
                if not has_both(known[person], pair)]
    return left[0] if left else None


def fewest_meetings(people, way, graph, goal):
    """How few meetings or tells of the GRAPH do it; None if none do."""
    plan = meeting_plan(people, way, graph, goal)
    return None if plan is None else len(plan)


def meeting_plan(people, way, graph, goal):
    """A PLAN with pairs of the GRAPH and as few as can be that does it; None if there is none."""
    pairs = frozen(graph)
    if goal == "somebody":
        return plan_for_somebody(people, way, pairs)
    if way == "tell":
        return told_plan(people, pairs)
    return met_plan(people, pairs)


def plan_for_somebody(people, way, pairs):
    """All is brought to one person; None if no person can be reached by all others."""
    for root in range(people):
        gathered = gathering(people, way, pairs, [root])
        if gathered is not None:
            return gathered
    return None


def told_plan(people, pairs):
    """All is told to the first person, who tells it to all others."""
    gathered = gathering(people, "tell", pairs, [0])
    spread = gathering(people, "tell", turned(pairs), [0])
    if gathered is None or spread is None:
        return None
    return gathered + turned(back(spread))


def met_plan(people, pairs):
    """All is brought to four people in a ring, or else to one person, and from there to all others."""
    ring = ring_in(people, pairs)
    if ring is None:
        gathered = gathering(people, "meet", pairs, [0])
        # The one who comes last hears all at once, and wants no further meeting.
        return None if gathered is None else gathered + back(gathered)[1:]
    gathered = gathering(people, "meet", pairs, ring)
    if gathered is None:
        return None
    a, b, c, d = ring
    within = tuple([in_order(pair) for pair in ((a, b), (c, d), (b, c), (d, a))])
    return gathered + within + back(gathered)


def gathering(people, way, pairs, roots):
    """The meetings or tells, one of each other person, that bring all to the roots; None if they cannot."""
    reached = list(roots)
    plan = ()
    at = 0
    while at < len(reached):
        for person in range(people):
            pair = (person, reached[at]) if way == "tell" else in_order((person, reached[at]))
            if person not in reached and pair in pairs:
                plan = (pair,) + plan
                reached.append(person)
        at += 1
    return plan if len(reached) == people else None


def ring_in(people, pairs):
    """Four people of whom each may meet the next one, and the last one the first; None if there are none."""
    for a, c in pairs_of(list(range(people))):
        between = [one for one in range(people) if in_order((a, one)) in pairs and in_order((one, c)) in pairs]
        if len(between) > 1:
            return [a, between[0], c, between[1]]
    return None


def in_order(pair):
    """The pair, the lesser one first."""
    return min(pair), max(pair)


def turned(pairs):
    """Each pair the other way round."""
    return tuple([(q, p) for p, q in pairs])


def back(plan):
    """The PLAN from its end to its beginning."""
    return plan[::-1]


def fewest_rounds(people):
    """How few ROUNDs there must be until everyone has got all."""
    if people == 1:
        return 0
    return doublings(people) + people % 2


def doublings(people):
    """How often one must double 1 until it is at least so many."""
    many = 0
    reach = 1
    while reach < people:
        reach = reach * 2
        many += 1
    return many


def rounds_plan(people):
    """As few ROUNDs as can be behind which everyone has got all."""
    if people == 1:
        return ()
    if people % 2 == 0:
        return tuple([even_round(people, offset) for offset in offsets(doublings(people))])
    core = 1
    while core * 2 < people:
        core = core * 2
    aside = tuple([(person - core, person) for person in range(core, people)])
    return (aside,) + rounds_plan(core) + (aside,)


def offsets(many):
    """The first of the numbers 0, 1, 3, 7 and so on, each twice the one ahead and one."""
    found = []
    for _ in range(many):
        found.append(found[-1] * 2 + 1 if found else 0)
    return found


def even_round(people, offset):
    """Each even person meets the odd one that stands so many pairs of people farther on, in a ring.

    Behind the round of offset 2k + 1 each has got the LOOKs of 2k + 2 pairs that stand side by side.
    """
    half = people // 2
    return tuple(sorted([in_order((2 * k, (k + offset) % half * 2 + 1)) for k in range(half)]))


def shows_rounds(people, thing):
    """Whether thing is a tuple of as few ROUNDs as can be behind which everyone has got all."""
    if not isinstance(thing, tuple) or len(thing) != fewest_rounds(people):
        return False
    if not all([is_round(people, meetings) for meetings in thing]):
        return False
    return reaches(people, "meet", [pair for meetings in thing for pair in meetings], "everybody")


def is_round(people, thing):
    """Whether thing is an ascending tuple, not (), of pairs, the lesser one first, in which nobody is twice."""
    if not isinstance(thing, tuple) or thing == () or not all([is_pair(people, pair) for pair in thing]):
        return False
    there = [person for pair in thing for person in pair]
    return len(set(there)) == len(there) and list(thing) == sorted(thing)


def is_pair(people, thing):
    """Whether thing is a pair of people, the lesser one first."""
    if not isinstance(thing, tuple) or len(thing) != 2 or not all([is_number(person) for person in thing]):
        return False
    return 0 <= thing[0] < thing[1] < people


def best_order(people, way, plan):
    """The fewest unknown pairs that these meetings or tells can leave in any order, and the least such order."""
    pairs = frozen(plan)
    ways = [(len(unknown_pairs(people, way, order)), order) for order in orders(pairs)]
    return min(ways)


def orders(pairs):
    """All orders of these pairs, ascending."""
    different = sorted(set(pairs))
    found = [()]
    for _ in pairs:
        found = [order + (pair,) for order in found for pair in different if order.count(pair) < pairs.count(pair)]
    return found


def weak_meetings(people, way, plan):
    """The indices of those that, left out alone, let further LOOKs be unknown to one another."""
    before = unknown_pairs(people, way, plan)
    return [index for index in range(len(plan))
            if unknown_pairs(people, way, plan[:index] + plan[index + 1:]) != before]


def weak_people(people, way, plan):
    """The people without whom further LOOKs of two others are unknown to one another."""
    before = unknown_pairs(people, way, plan)
    weak = []
    for person in range(people):
        left = unknown_pairs(people, way, [pair for pair in plan if person not in pair])
        if [pair for pair in left if pair not in before and person not in pair]:
            weak.append(person)
    return weak
