"""The rules by which LOOKs are alike and lead to one another.

A FACT is kept as a key of a dict, with the lesser LOOK first; its value is the tuple of the FACTs
that it was made from. Such a dict holds its FACTs in the order in which they were made.
"""

from hiddenforks.data import adds, looks


def alike_fact(one, other):
    """The FACT that both LOOKs are alike, the lesser one first."""
    return ("alike", min(one, other), max(one, other))


def begins_fact(one, other):
    """The FACT that one LOOK leads to the other one."""
    return ("begins", one, other)


def pairs_of(members):
    """The pairs of members of an ascending list, the lesser one first."""
    return [(one, other) for one in members for other in members if one < other]


def drawn_pairs(timetable):
    """The pairs of LOOKs between which the person of the later one has an own add."""
    shown = looks(timetable)
    own = adds(timetable)
    drawn = {}
    for one, other in pairs_of(list(range(len(shown)))):
        place, person = shown[other]
        if any([shown[one][0] < at < place and adder == person for at, adder in own]):
            drawn[(one, other)] = True
    return drawn


def direct_facts(timetable, kind):
    """The FACTs by the rules (1) and (2), which need no other ones."""
    _, events = timetable
    rows = had_ahead(timetable, kind)
    facts = {}
    for event, had, behind in zip(events, rows, rows[1:]):
        for fact in facts_at(event, had, behind, kind):
            facts[fact] = ()
    return facts


def facts_at(event, had, behind, kind):
    """The FACTs that this EVENT shows, told who has which LOOKs ahead of it and behind it."""
    person = event[1]
    if event[0] == "look":
        return [begins_fact(look, behind[person][-1]) for look in had[person]]
    if event[0] == "add":
        return []
    return [alike_fact(one, other) for one, other in met_pairs(had[person], had[event[2]], kind)]


def had_ahead(timetable, kind):
    """Who has which LOOKs ahead of each EVENT, and at last behind all of them."""
    people, events = timetable
    rows = [[[] for _ in range(people)]]
    look = 0
    for event in events:
        if event[0] == "look":
            rows.append(had_with(rows[-1], [event[1]], rows[-1][event[1]] + [look]))
            look += 1
        elif event[0] == "add" or kind == "short":
            rows.append(rows[-1])
        else:
            rows.append(had_behind(rows[-1], event))
    return rows


def met_pairs(had, others, kind):
    """The pairs that are alike as soon as those who have these LOOKs compare what they know."""
    if kind == "long":
        return pairs_of(joined(had, others))
    return [(had[-1], others[-1])] if had and others else []


def had_behind(had, event):
    """Who has which LOOKs behind a meet or tell of kind long."""
    word, person, other = event
    hearers = [person, other] if word == "meet" else [other]
    return had_with(had, hearers, joined(had[person], had[other]))


def had_with(had, hearers, told):
    """Who has which LOOKs when these hearers have what is told, and all others what they had."""
    return [told if person in hearers else seen for person, seen in enumerate(had)]


def joined(had, others):
    """The ascending list of the LOOKs in one of both lists."""
    return sorted(set(had + others))


def made_from(facts, many, drawn):
    """What the rules (3) to (6) make from FACTs: pairs of a FACT and those that it is made from."""
    made = []
    for fact in facts:
        word, one, other = fact
        if word == "begins":
            made.append((alike_fact(one, other), (fact,)))
            made.extend(made_beyond(facts, many, one, other))
        elif (one, other) in drawn:
            made.append((begins_fact(one, other), (fact,)))
    return made


def made_beyond(facts, many, one, other):
    """What the rules (4) and (5) make from it that one LOOK leads to the other one."""
    made = []
    first = begins_fact(one, other)
    for third in range(many):
        further = begins_fact(other, third)
        if further in facts:
            made.append((begins_fact(one, third), (first, further)))
        beside = alike_fact(other, third)
        if third != one and beside in facts:
            made.append((alike_fact(one, third), (first, beside)))
    return made


def all_facts(direct, many, drawn):
    """These FACTs and all that the rules make from them."""
    facts = {fact: direct[fact] for fact in direct}
    before = -1
    while before < len(facts):
        before = len(facts)
        made = made_from(facts, many, drawn)
        for fact, sources in made:
            if fact not in facts:
                facts[fact] = sources
    return facts


def facts_of(timetable, kind):
    """All FACTs that the rules show of a TIMETABLE."""
    return all_facts(direct_facts(timetable, kind), len(looks(timetable)), drawn_pairs(timetable))


def needed_for(goal, facts):
    """The FACTs that this one is made from, however far back, and itself: a dict of True."""
    needed = {goal: True}
    waiting = [goal]
    while waiting:
        sources = facts[waiting.pop()]
        for fact in sources:
            if fact not in needed:
                needed[fact] = True
                waiting.append(fact)
    return needed
