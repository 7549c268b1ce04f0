"""TIMETABLEs and STORYs as texts.

What is called .._from returns None if the text is not so written.
"""

from hiddenforks.data import is_event
from hiddenforks.errors import BadText

DIGITS = "0123456789"
LONGEST = 5


def timetable_text(timetable):
    """The TIMETABLE in lines: how many people, then each EVENT."""
    people, events = timetable
    return "\n".join([f"people {people}"] + [event_text(event) for event in events])


def story_text(story):
    """The STORY in one line: its HEADs."""
    return "; ".join([head_text(head) for head in story]) if story else "none"


def timetable_in(text):
    """The TIMETABLE that has this text."""
    first, *others = text.split("\n")
    people = people_from(first)
    if people is None:
        raise BadText(0)
    events = [event_from(people, line) for line in others]
    for at, event in enumerate(events):
        if event is None:
            raise BadText(at + 1)
    return people, tuple(events)


def story_in(text):
    """The HEADs of the STORY that has this text."""
    story = story_from(text)
    if story is None:
        raise BadText(0)
    return story


def event_text(event):
    """The word of an EVENT and its people."""
    return " ".join([str(part) for part in event])


def head_text(head):
    """The ENTRYs of a HEAD."""
    return ",".join([str(entry) for entry in head]) if head else "-"


def people_from(line):
    """How many people this line tells, at least one."""
    word, _, rest = line.partition(" ")
    people = number_from(rest)
    return None if word != "people" or people == 0 else people


def event_from(people, line):
    """The EVENT among so many people."""
    words = line.split(" ")
    event = tuple(words[:1] + [number_from(word) for word in words[1:]])
    return event if is_event(people, event) else None


def story_from(text):
    """The HEADs of a STORY."""
    if text == "none":
        return ()
    heads = tuple([head_from(part) for part in text.split("; ")])
    return None if None in heads else heads


def head_from(text):
    """The ENTRYs of a HEAD."""
    return () if text == "-" else numbers_from(text.split(","))


def numbers_from(words):
    """The numbers, each another one."""
    numbers = tuple([number_from(word) for word in words])
    return None if None in numbers or len(set(numbers)) < len(numbers) else numbers


def number_from(word):
    """The number, without a leading zero."""
    if word == "" or len(word) > LONGEST or any([sign not in DIGITS for sign in word]):
        return None
    return None if word[0] == "0" and word != "0" else int(word)
