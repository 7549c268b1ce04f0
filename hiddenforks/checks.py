"""Whether there are such people, LOOKs and meetings."""

from hiddenforks.data import looks
from hiddenforks.errors import NoLook, NoMeeting, NoPerson


def check_looks(timetable, numbers):
    """Raises NoLook for the first of the numbers that is that of no LOOK."""
    many = len(looks(timetable))
    for number in numbers:
        if not 0 <= number < many:
            raise NoLook(number)


def check_pairs(timetable, pairs):
    """Raises NoLook for the first number in the pairs that is that of no LOOK."""
    for pair in pairs:
        check_looks(timetable, pair)


def check_people(timetable, numbers):
    """Raises NoPerson for the first of the numbers that is that of no person."""
    people, _ = timetable
    for number in numbers:
        if not 0 <= number < people:
            raise NoPerson(number)


def check_meetings(timetable, places):
    """Raises NoMeeting for the first of the places at which there is no meet or tell."""
    there = meetings(timetable)
    for index in places:
        if index not in there:
            raise NoMeeting(index)


def meetings(timetable):
    """The places of all meets and tells."""
    _, events = timetable
    return [place for place, event in enumerate(events) if event[0] in ("meet", "tell")]
