"""What several tests need: values of every kind, timetables by chance, and the document's words told once more.

The tellings here are made another way than those of the package, so that both can be compared.
"""

import functools
import itertools
import random

KINDS = ("long", "short")

TABLE = (3, (("look", 0), ("look", 1), ("meet", 0, 2), ("add", 2), ("look", 2), ("meet", 1, 2)))
DRAWN = (5, (("look", 0), ("look", 1), ("add", 2), ("look", 2),
             ("tell", 2, 3), ("tell", 0, 3), ("tell", 2, 4), ("tell", 1, 4)))
HEARD = (4, (("look", 0), ("look", 1), ("tell", 0, 2), ("tell", 1, 2)))
TWICE = (2, (("look", 0), ("look", 1), ("meet", 0, 1), ("meet", 0, 1)))
LINE = (5, (("look", 0), ("add", 2), ("add", 3), ("look", 2), ("look", 3), ("look", 1), ("look", 4),
            ("meet", 0, 1), ("meet", 1, 2), ("meet", 2, 3), ("meet", 3, 4)))
FAR = (4, (("look", 0), ("add", 1), ("look", 1), ("look", 3), ("tell", 1, 2), ("tell", 3, 2)))
APART = (4, (("look", 0), ("look", 1), ("look", 2), ("look", 3)))
CHAIN = [("meet", 0, 1), ("meet", 1, 2), ("meet", 2, 3)]


def check_error(case, error, value, function, *arguments):
    """The test case fails if this call does not raise just this error with this value alone."""
    with case.assertRaises(error) as caught:
        function(*arguments)
    case.assertIs(type(caught.exception), error)
    case.assertIsNone(caught.exception.__context__)
    case.assertEqual(list(vars(caught.exception).values()), [value], (function.__name__, arguments))


def nested(depth, core, make):
    for _ in range(depth):
        core = make([core])
    return core


def junk():
    """Values that are no EVENT, TIMETABLE, HEAD of anything, STORY, kind or tuple of FACTs."""
    return [None, True, False, 0, 1, -1, 1000, 10 ** 30, "", "look", "longer", "Long", "alike", [], [()], ["look", 0],
            [[], []], [0, 1], (None,), (True,), ("",), ([],), (("look",),), ("look", None), ((), []), [None, [None]],
            nested(12, 0, tuple), nested(12, "look", list), nested(11, (), tuple), nested(6, nested(6, 0, list), tuple)]


def listed(value):
    """The same value with a list for each tuple in it."""
    if isinstance(value, (list, tuple)):
        return [listed(part) for part in value]
    return value


def tupled(value):
    if isinstance(value, (list, tuple)):
        return tuple(tupled(part) for part in value)
    return value


def chance(seed):
    return random.Random(seed)


def subsets(members):
    """Every ascending tuple of them, by length, then ascending."""
    return [some for size in range(len(members) + 1) for some in itertools.combinations(sorted(members), size)]


def random_table(dice, people, looks, adds, meetings):
    """A timetable with so many looks, adds, and meets or tells, in any order."""
    words = ["look"] * looks + ["add"] * adds + ["pair"] * meetings
    dice.shuffle(words)
    events = []
    for word in words:
        if word == "pair" and people > 1:
            events.append((dice.choice(["meet", "tell"]), *dice.sample(range(people), 2)))
        elif word != "pair":
            events.append((word, dice.randrange(people)))
    return people, tuple(events)


def small_tables(seed, many):
    """Timetables so small that their stories can be tried."""
    dice = chance(seed)
    for _ in range(many):
        adds = dice.randrange(3)
        looks = dice.randrange(1, 4) if adds == 2 else dice.randrange(1, 5)
        yield random_table(dice, dice.randrange(1, 5), looks, adds, dice.randrange(5))


def middle_tables(seed, many):
    """Timetables in which adds stand between looks that hang together in long rows."""
    dice = chance(seed)
    for _ in range(many):
        people, looks = dice.randrange(3, 6), dice.randrange(4, 7)
        yield random_table(dice, people, looks, dice.randrange(1, 4), dice.randrange(3, 7))


def large_tables(seed, many):
    """Timetables at the bounds: 6 people, 16 events, 8 looks, 8 meets and tells."""
    dice = chance(seed)
    yield 6, tuple([("look", k % 6) for k in range(8)] + [("meet", k % 5, k % 5 + 1) for k in range(8)])
    for _ in range(many):
        looks, meetings = dice.randrange(5, 9), dice.randrange(5, 9)
        yield random_table(dice, 6, looks, 16 - looks - meetings, meetings)


def look_list(table):
    return [(place, event[1]) for place, event in enumerate(table[1]) if event[0] == "look"]


def starts(head, other):
    return len(head) <= len(other) and all(a == b for a, b in zip(head, other))


def unlike(head, other):
    return any(a != b for a, b in zip(head, other))


def step(kind, known, added, event, head):
    """What everybody knows behind an event, and who notices at it. known: a tuple; added: adders by entry."""
    word, person = event[0], event[1]
    after = list(known)
    if word == "look":
        own = {entry for entry, adder in enumerate(added) if adder == person}
        if unlike(known[person], head) or len(head) < len(known[person]) or own - set(head):
            return known, (person,)
        after[person] = head
    elif word != "add":
        hearers = sorted(event[1:] if word == "meet" else event[2:])
        one, two = known[person], known[event[2]]
        if unlike(one, two):
            return known, tuple(hearers)
        for hearer in hearers if kind == "long" else ():
            after[hearer] = max(one, two, key=len)
    return tuple(after), ()


def first_notice(table, kind, story):
    """The place at which somebody first notices, and who; None if nobody does."""
    known, added, heads = ((),) * table[0], (), iter(story)
    for place, event in enumerate(table[1]):
        known, hearers = step(kind, known, added, event, next(heads) if event[0] == "look" else None)
        if hearers:
            return place, hearers
        if event[0] == "add":
            added += (event[1],)
    return None


def heads_of(entries):
    return [head for size in range(len(entries) + 1) for head in itertools.permutations(entries, size)]


def walks(table, kind, made_up=(1000, 1001), once=False):
    """Every unseen story of these made up entries and the added ones, by trying them; and what all know at each place.

    With once, stories that differ only in the names of made up entries are tried once: each new one is the least left.
    """

    def go_on(place, known, added, story, rows):
        if place == len(table[1]):
            yield story, rows
            return
        event = table[1][place]
        heads = heads_of(tuple(range(len(added))) + tuple(made_up)) if event[0] == "look" else [None]
        if once and event[0] == "look":
            used = {entry for head in story for entry in head}
            fresh = [entry for entry in made_up if entry not in used]
            heads = [head for head in heads
                     if [entry for entry in head if entry in fresh] == fresh[:len(set(head) & set(fresh))]]
        for head in heads:
            after, hearers = step(kind, known, added, event, head)
            if not hearers:
                more = added + (event[1],) if event[0] == "add" else added
                yield from go_on(place + 1, after, more, story if head is None else story + (head,), rows + (after,))

    yield from go_on(0, ((),) * table[0], (), (), ())


def unseen_stories(table, kind, made_up=(1000, 1001)):
    return (story for story, _ in walks(table, kind, made_up))


def tried_hidden(table, kind, made_up=(1000, 1001)):
    """The pairs of looks that are unlike in some of those stories."""
    pairs = list(itertools.combinations(range(len(look_list(table))), 2))
    found = set()
    for story in unseen_stories(table, kind, made_up):
        found |= {pair for pair in pairs if pair not in found and unlike(story[pair[0]], story[pair[1]])}
        if len(found) == len(pairs):
            break
    return sorted(found)


def first_rules(table, kind):
    """What the rules (1) and (2) show: the sets of leads and of alikes, by following each look through the events."""
    shown = look_list(table)
    has = {}
    for number, (place, person) in enumerate(shown):
        hearers = {person}
        for later in range(place, len(table[1])):
            has[number, later] = frozenset(hearers)
            word, *who = table[1][later]
            if kind == "long" and word in ("meet", "tell") and who[0] in hearers:
                hearers.add(who[1])
            if kind == "long" and word == "meet" and who[1] in hearers:
                hearers.add(who[0])
    lead, same = set(), set()
    for one, other in itertools.combinations(range(len(shown)), 2):
        place, person = shown[other]
        if person in has[one, place]:
            lead.add((one, other))
        for later in range(place + 1, len(table[1])):
            word, *who = table[1][later]
            if word in ("meet", "tell") and has[one, later] & set(who) and has[other, later] & set(who):
                if kind == "long" or last_looks(table, later, who) == {one, other}:
                    same.add((one, other))
    return lead, same


def last_looks(table, place, who):
    """The last looks of these people ahead of a place."""
    return {max(number for number, (at, person) in enumerate(look_list(table)) if at < place and person == one)
            for one in who if ("look", one) in table[1][:place]}


def own_add_between(table, one, other):
    (start, _), (end, person) = look_list(table)[one], look_list(table)[other]
    return ("add", person) in table[1][start:end]


def one_more_rule(table, lead, same):
    """What the rules (3) to (6) make at once from these."""
    looks = range(len(look_list(table)))
    both = same | {(b, a) for a, b in same}
    new_lead = {(a, d) for a, b in lead for c, d in lead if b == c}
    new_lead |= {(a, b) for a, b in same if own_add_between(table, a, b)}
    new_same = set(lead) | {(min(a, d), max(a, d)) for a, b in lead for c, d in both if b == c and a != d}
    assert all(a in looks and b in looks for a, b in new_lead | new_same)
    return new_lead, new_same


def ruled(table, kind, alike=()):
    """All leads and all alikes by the rules, as ascending lists; with pairs that are alike from the beginning."""
    lead, same = first_rules(table, kind)
    same |= {(min(pair), max(pair)) for pair in alike}
    while True:
        new_lead, new_same = one_more_rule(table, lead, same)
        if new_lead <= lead and new_same <= same:
            return sorted(lead), sorted(same)
        lead, same = lead | new_lead, same | new_same


def is_paper(table, kind, i, j, thing):
    """Whether thing shows that both looks are alike, rule by rule."""
    many = len(look_list(table))
    start_lead, start_same = first_rules(table, kind)
    lead, same = set(), set()
    if type(thing) is not tuple or not thing:
        return False
    for fact in thing:
        if type(fact) is not tuple or len(fact) != 3 or any(type(look) is not int for look in fact[1:]):
            return False
        word, one, other = fact
        if one == other or not (0 <= one < many and 0 <= other < many):
            return False
        new_lead, new_same = one_more_rule(table, lead, same)
        if word == "begins" and (one, other) in start_lead | new_lead:
            lead.add((one, other))
        elif word == "alike" and (min(one, other), max(one, other)) in start_same | new_same:
            same.add((min(one, other), max(one, other)))
        else:
            return False
    return thing[-1] in (("alike", i, j), ("alike", j, i))


@functools.lru_cache(maxsize=None)
def told_hidden(table, kind):
    """The pairs of looks, the lesser one first, that the rules do not show alike."""
    same = ruled(table, kind)[1]
    return [pair for pair in itertools.combinations(range(len(look_list(table))), 2) if pair not in same]


def meeting_list(table):
    return [place for place, event in enumerate(table[1]) if event[0] in ("meet", "tell")]


def left_over(table, liars, lost):
    """What liars and losses leave of a timetable, and the number in it of each look that is left."""
    events, numbers, look = [], {}, 0
    for place, event in enumerate(table[1]):
        stays = event[0] == "add" or place not in lost and not set(event[1:]) & set(liars)
        if event[0] == "look":
            if stays:
                numbers[look] = len(numbers)
            look += 1
        if stays:
            events.append(event)
    return (table[0], tuple(events)), numbers


@functools.lru_cache(maxsize=None)
def pairs_left(table, kind, liars, lost):
    """The pairs of looks, by the numbers that they had, that are hidden in what is left."""
    left, numbers = left_over(table, liars, lost)
    old = {new: look for look, new in numbers.items()}
    return frozenset((old[i], old[j]) for i, j in told_hidden(left, kind))


def it_hides(table, kind, i, j, liars, lost):
    """Whether two looks are hidden in what is left."""
    return (min(i, j), max(i, j)) in pairs_left(table, kind, tuple(liars), tuple(sorted(lost)))


def profiles(table, kind, made_up):
    """What the unseen stories can do: for each one whether two heads are unlike, and for each look the sets of people
    who come to know an entry that is first shown there; and for each look the last place at which each can come to."""
    found, late = set(), {}
    for story, rows in walks(table, kind, made_up, once=True):
        forked = any(unlike(one, other) for one, other in itertools.combinations(story, 2))
        shown = [set() for _ in story]
        for entry in made_up:
            at = [look for look, head in enumerate(story) if entry in head]
            if at:
                places = {person: next((place for place, known in enumerate(rows) if entry in known[person]), None)
                          for person in range(table[0])}
                shown[at[0]].add(frozenset(person for person in places if places[person] is not None))
                for person, place in places.items():
                    if place is not None:
                        late[at[0], person] = max(place, late.get((at[0], person), -1))
        found.add((forked, tuple(frozenset(sets) for sets in shown)))
    return found, late


def word_of(found, wanted):
    """The word for what the stories can do: wanted is a dict of the people from whom it is kept, by look."""
    ways = {forked for forked, shown in found
            if all(any(not people & set(hearers) for hearers in shown[look]) for look, people in wanted.items())}
    return "no" if not ways else "delay" if False in ways else "fork"


def hearers_of_entry(table, kind, story, entry):
    """The people who come to know an entry, by walking the story; None if somebody notices."""
    known, added, heads, hearers = ((),) * table[0], (), iter(story), set()
    for event in table[1]:
        known, noticed = step(kind, known, added, event, next(heads) if event[0] == "look" else None)
        if noticed:
            return None
        if event[0] == "add":
            added += (event[1],)
        hearers |= {person for person in range(table[0]) if entry in known[person]}
    return tuple(sorted(hearers))


def first_shown(story, look):
    """The made up entries that are first shown at a look."""
    before = {entry for head in story[:look] for entry in head}
    return [entry for entry in story[look] if entry >= 1000 and entry not in before]


def fulfils(table, kind, story, wanted):
    """Whether nobody notices, and at each look an entry is first shown that is kept from its people."""
    return all(any(not people & set(hearers_of_entry(table, kind, story, entry))
                   for entry in first_shown(story, look)) for look, people in wanted.items())
