"""A desk: answers to the requests of a sheet.

What is called .._from returns None if the text is not so written.
"""

from hiddenforks.branches import most_branches
from hiddenforks.errors import BadLine, BadStory, BadText, NoLook
from hiddenforks.faults import least_liars, least_lost
from hiddenforks.forks import fork, hidden, hidden_pairs, seen_at
from hiddenforks.hall import is_kind, noticed_at
from hiddenforks.keeping import kept_from
from hiddenforks.more import behind, mend
from hiddenforks.texts import event_from, event_text, numbers_from, story_from, story_text, timetable_in

# How many LOOKs stand behind the word of a request, for each word behind which nothing else stands.
LOOKS_ASKED = {"pairs": 0, "hidden": 2, "fork": 2, "seen": 2, "kept": 1, "liars": 2, "lost": 2, "branches": 0}


def answers(text):
    """The answers to the requests of a sheet."""
    lines = text.split("\n")
    end = lines.index("") if "" in lines else len(lines)
    timetable = timetable_of(lines[:end])
    if end + 1 >= len(lines):
        raise BadLine(len(lines))
    kind = lines[end + 1]
    if not is_kind(kind):
        raise BadLine(end + 1)
    return answers_to(requests_of(timetable, lines, end + 2), timetable, kind)


def timetable_of(lines):
    """The TIMETABLE that is written in these lines."""
    try:
        return timetable_in("\n".join(lines))
    except BadText as wrong:
        number = wrong.line
    raise BadLine(number)


def requests_of(timetable, lines, start):
    """The requests in the lines from start on."""
    people, _ = timetable
    requests = [request_from(people, line) for line in lines[start:]]
    for at, request in enumerate(requests):
        if request is None:
            raise BadLine(start + at)
    return requests


def request_from(people, line):
    """The word of a request and what it asks, in a tuple; the EVENT if the line is the text of one."""
    word, _, rest = line.partition(" ")
    if word == "notice":
        story = story_from(rest)
        return None if story is None else (word, story)
    if word == "mend":
        return mend_from(people, rest)
    if word in LOOKS_ASKED:
        asked = numbers_from(line.split(" ")[1:])
        return None if asked is None or len(asked) != LOOKS_ASKED[word] else (word,) + asked
    return event_from(people, line)


def mend_from(people, text):
    """The request to mend: its pairs, then its EVENTs."""
    told, _, allowed = text.partition(" by ")
    pairs = [pair_from(word) for word in told.split(" ")]
    events = [event_from(people, part) for part in allowed.split(", ")]
    return None if None in pairs or None in events else ("mend", pairs, events)


def pair_from(word):
    """The pair of LOOKs, the lesser one first."""
    pair = numbers_from(word.split("+"))
    return None if pair is None or len(pair) != 2 or pair[0] > pair[1] else pair


def answers_to(requests, timetable, kind):
    """The answer to each request; an EVENT stands behind the TIMETABLE from then on."""
    now = timetable
    found = []
    for request in requests:
        if request[0] in ANSWERS:
            found.append(answer_to(request, now, kind))
        else:
            now = behind(now, [request])
            found.append("done")
    return found


def answer_to(request, timetable, kind):
    """The answer to a request that is no EVENT."""
    word, *asked = request
    answer = ANSWERS[word]
    try:
        return answer(timetable, kind, *asked)
    except NoLook:
        return "refused NoLook"
    except BadStory:
        return "refused BadStory"


def pairs_answer(timetable, kind):
    """The hidden pairs."""
    return dashed(" ".join([f"{i}+{j}" for i, j in hidden_pairs(timetable, kind)]))


def hidden_answer(timetable, kind, i, j):
    """Whether both LOOKs are hidden."""
    return "yes" if hidden(timetable, kind, i, j) else "no"


def fork_answer(timetable, kind, i, j):
    """An unseen STORY in which both LOOKs are unlike."""
    story = fork(timetable, kind, i, j)
    return "no" if story is None else story_text(story)


def seen_answer(timetable, kind, i, j):
    """The place behind which both LOOKs are not hidden."""
    place = seen_at(timetable, kind, i, j)
    return "never" if place is None else str(place)


def notice_answer(timetable, kind, story):
    """The place at which somebody notices, and who does."""
    found = noticed_at(timetable, kind, story)
    if found is None:
        return "never"
    place, people = found
    return numbers_text((place,) + people)


def kept_answer(timetable, kind, i):
    """From whom it can be kept."""
    return numbers_text(kept_from(timetable, kind, i))


def liars_answer(timetable, kind, i, j):
    """The fewest liars."""
    return numbers_text(least_liars(timetable, kind, i, j))


def lost_answer(timetable, kind, i, j):
    """The fewest meets and tells that are lost."""
    return numbers_text(least_lost(timetable, kind, i, j))


def branches_answer(timetable, kind):
    """The most LOOKs that can all be unlike."""
    return numbers_text(most_branches(timetable, kind))


def mend_answer(timetable, kind, pairs, allowed):
    """The fewest EVENTs that mend the pairs."""
    events = mend(timetable, kind, pairs, allowed)
    return "impossible" if events is None else dashed(", ".join([event_text(event) for event in events]))


def numbers_text(numbers):
    """The numbers with blanks between; None stands for what cannot be."""
    return "impossible" if numbers is None else dashed(" ".join([str(number) for number in numbers]))


def dashed(text):
    """The text, - for an empty one."""
    return "-" if text == "" else text


ANSWERS = {"pairs": pairs_answer, "hidden": hidden_answer, "fork": fork_answer, "seen": seen_answer,
           "notice": notice_answer, "kept": kept_answer, "liars": liars_answer, "lost": lost_answer,
           "branches": branches_answer, "mend": mend_answer}
