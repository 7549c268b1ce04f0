"""Unseen STORYs in which some HEADs must not begin some others."""

from hiddenforks.data import MADE_UP, adds, looks
from hiddenforks.rules import alike_fact, begins_fact, drawn_pairs


def unseen_story(timetable, facts, barred):
    """An unseen STORY in which no HEAD begins another one if their pair is in barred; None if there is none.

    LOOKs that hang together by being alike must share a beginning, so one of them has to begin all
    others. It is taken away; what then no longer hangs together can go on in unlike ways. No look
    does harm by being taken away early: where all can be done with many, it can be done with fewer.
    """
    drawn = drawn_pairs(timetable)
    many = len(looks(timetable))
    heads = [() for _ in range(many)]
    waiting = [(part, ()) for part in parts_of(list(range(many)), facts)]
    while waiting:
        members, before = waiting.pop()
        first = first_of(members, facts, drawn, barred)
        if first is None:
            return None
        heads[first] = head_behind(timetable, before, first)
        rest = [look for look in members if look != first]
        waiting.extend([(part, heads[first]) for part in parts_of(rest, facts)])
    return tuple(heads)


def parts_of(members, facts):
    """The LOOKs in lists of those that hang together by steps between alike ones."""
    parts = []
    for look in members:
        if not any([look in part for part in parts]):
            parts.append(part_with(look, members, facts))
    return parts


def part_with(look, members, facts):
    """The ascending list of the members that hang together with this LOOK."""
    part = [look]
    at = 0
    while at < len(part):
        near = [one for one in members if one not in part and alike_fact(part[at], one) in facts]
        part.extend(near)
        at += 1
    return sorted(part)


def first_of(members, facts, drawn, barred):
    """The least member whose HEAD can begin those of all others; None if there is none."""
    for look in members:
        if not any([cannot_begin(look, other, facts, drawn, barred) for other in members]):
            return look
    return None


def cannot_begin(look, other, facts, drawn, barred):
    """Whether the HEAD of this LOOK cannot begin that of the other one."""
    if begins_fact(other, look) in facts or (other, look) in drawn:
        return True
    return (look, other) in barred


def head_behind(timetable, before, look):
    """The HEAD before, then something that only this LOOK begins with, and what its person wants."""
    place, person = looks(timetable)[look]
    wanted = [entry for entry, (at, adder) in enumerate(adds(timetable)) if adder == person and at < place]
    return before + (MADE_UP + look,) + tuple([entry for entry in wanted if entry not in before])
