"""How timetables and stories are written, told once more: by patterns, and by changing texts that are right."""

import re

NUMBER = "(?:0|[1-9][0-9]{0,4})"
EVENT = re.compile(f"(look|add) ({NUMBER})|(meet|tell) ({NUMBER}) ({NUMBER})")
HEAD = f"(?:-|{NUMBER}(?:,{NUMBER})*)"
SIGNS = " 0123456789abdelmnopkt,;-+_\n"
# What other programs read as digits, blanks or ends of lines.
STRANGE = ["\t", "\r", "\x0b", "\x0c", "\x1c", "\x85", "\xa0", "\u2028", "\u3000", "\u0661", "\xb2", "\uff11", "\x00",
           "\u00e9"]


def told_event(people, line):
    """The event of a line, None if it is not so written."""
    found = EVENT.fullmatch(line)
    if not found:
        return None
    word, *who = [part for part in found.groups() if part is not None]
    who = [int(number) for number in who]
    return (word, *who) if max(who) < people and len(set(who)) == len(who) else None


def told_timetable(text):
    """The timetable of a text and None, or None and the first wrong line."""
    first, *others = text.split("\n")
    found = re.fullmatch("people ([1-9][0-9]{0,4})", first)
    if not found:
        return None, 0
    events = [told_event(int(found[1]), line) for line in others]
    return (None, events.index(None) + 1) if None in events else ((int(found[1]), tuple(events)), None)


def told_story(text):
    """The heads of a text, None if it is not so written."""
    if text == "none":
        return ()
    if not re.fullmatch(f"{HEAD}(?:; {HEAD})*", text):
        return None
    heads = tuple(() if part == "-" else tuple(map(int, part.split(","))) for part in text.split("; "))
    return heads if all(len(set(head)) == len(head) for head in heads) else None


def changed(dice, text, signs=SIGNS):
    """The text with a sign more, a sign less or another sign, or with two parts of it exchanged."""
    at, end = sorted(dice.randrange(len(text) + 1) for _ in range(2))
    return dice.choice([text[:at] + dice.choice(signs) + text[at:], text[:at] + text[at + 1:], text[:at] + text[end:],
                        text[:at] + dice.choice(signs) + text[at + 1:], text[end:] + text[at:end] + text[:at]])


def random_story(dice):
    heads = []
    for _ in range(dice.randrange(5)):
        entries = dice.sample([0, 1, 2, 9, 10, 100, 999, 1000, 1001, 10000, 99999], dice.randrange(4))
        heads.append(tuple(entries))
    return tuple(heads)


def told_text(story):
    return "; ".join(",".join(map(str, head)) or "-" for head in story) or "none"
