"""What mends a TIMETABLE: further EVENTs behind which pairs of its LOOKs are not hidden any more."""

from hiddenforks.checks import check_looks, check_pairs
from hiddenforks.data import is_event, looks
from hiddenforks.forks import fork, hidden_pairs
from hiddenforks.keeping import hearers_of
from hiddenforks.plain import frozen
from hiddenforks.rules import begins_fact, facts_of, had_ahead

# How many further EVENTs mend looks for at most.
MOST = 3


def behind(timetable, events):
    """The TIMETABLE with these EVENTs behind its last one."""
    people, ahead = timetable
    return people, frozen(ahead) + frozen(events)


def unmended(timetable, kind, pairs, events):
    """Those of the pairs that are hidden with these EVENTs behind the TIMETABLE."""
    check_pairs(timetable, pairs)
    asked = frozen(pairs)
    return [pair for pair in hidden_pairs(behind(timetable, events), kind) if pair in asked]


def unmended_story(timetable, kind, pairs, events):
    """An unseen STORY behind these EVENTs in which the least unmended pair is unlike; None if all are mended."""
    left = unmended(timetable, kind, pairs, events)
    if not left:
        return None
    i, j = left[0]
    return fork(behind(timetable, events), kind, i, j)


def mend(timetable, kind, pairs, allowed):
    """As few of the allowed EVENTs as can be, at most three, that mend the pairs; None if no three do."""
    for many in range(MOST + 1):
        for row in rows_of(allowed, many):
            if not unmended(timetable, kind, pairs, row):
                return row
    return None


def is_mended(timetable, kind, pairs, allowed, thing):
    """Whether thing is a tuple of allowed EVENTs that mend the pairs."""
    check_pairs(timetable, pairs)
    people, _ = timetable
    if not isinstance(thing, tuple) or not all([is_event(people, event) for event in thing]):
        return False
    events = frozen(allowed)
    return all([event in events for event in thing]) and not unmended(timetable, kind, pairs, thing)


def reach(timetable, kind, i):
    """The people who have, behind the last EVENT, the LOOK i or one that it leads to."""
    check_looks(timetable, [i])
    facts = facts_of(timetable, kind)
    beyond = [look for look in range(len(looks(timetable))) if begins_fact(i, look) in facts]
    return list(hearers_of(had_ahead(timetable, kind)[-1], [i] + beyond))


def first_unlike(timetable, other, kind):
    """The least pair that is hidden in one of two TIMETABLEs and not in the other one; None if there is none."""
    one, two = hidden_pairs(timetable, kind), hidden_pairs(other, kind)
    only = [pair for pair in one if pair not in two] + [pair for pair in two if pair not in one]
    return min(only) if only else None


def rows_of(allowed, many):
    """All rows of so many of the allowed EVENTs, ascending."""
    events = sorted(set(frozen(allowed)))
    rows = [()]
    for _ in range(many):
        rows = [row + (event,) for row in rows for event in events]
    return rows
