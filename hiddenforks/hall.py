"""What people notice."""

from hiddenforks.data import MADE_UP, begins, comparable, is_story
from hiddenforks.errors import Alone, BadStory, NoPerson, NotAdded
from hiddenforks.plain import frozen


class Hall:
    """People who look, add, meet and tell, and what they know and notice."""

    def __init__(self, people, kind):
        self._people = people
        self._kind = kind
        self._known = [() for _ in range(people)]
        self._adders = []
        self._noticed = []
        self._answers = []

    def look(self, person, head):
        """The person is shown this HEAD: "unlike", "missing" or "fine"."""
        self._check_person(person)
        shown = tuple(head)
        self._check_added(shown)
        if not begins(self._known[person], shown):
            return self._notice("unlike", [person])
        if any([entry not in shown for entry in self.wants(person)]):
            return self._notice("missing", [person])
        return self._learn([person], shown)

    def add(self, person):
        """The person adds an ENTRY, which is returned."""
        self._check_person(person)
        entry = len(self._adders)
        self._adders.append(person)
        return self._answer(entry)

    def meet(self, person, other):
        """Both compare what they know: "unlike" or "fine"."""
        self._check_two(person, other)
        return self._compare(person, other, [person, other])

    def tell(self, person, other):
        """The other one compares what both know: "unlike" or "fine"."""
        self._check_two(person, other)
        return self._compare(person, other, [other])

    def do(self, event, head=None):
        """Does an EVENT, a look at this HEAD."""
        word = event[0]
        if word == "look":
            return self.look(event[1], head)
        if word == "add":
            return self.add(event[1])
        if word == "meet":
            return self.meet(event[1], event[2])
        return self.tell(event[1], event[2])

    def knows(self, person):
        """The HEAD that the person knows."""
        self._check_person(person)
        return self._known[person]

    def wants(self, person):
        """The ENTRYs that the person has added."""
        self._check_person(person)
        return [entry for entry, adder in enumerate(self._adders) if adder == person]

    def noticed(self):
        """Those who have noticed."""
        return list(self._noticed)

    def adders(self):
        """Who has added each ENTRY."""
        return list(self._adders)

    def twin(self):
        """A Hall in the same state that shares nothing with this one."""
        other = Hall(self._people, self._kind)
        other._known = list(self._known)
        other._adders = list(self._adders)
        other._noticed = list(self._noticed)
        other._answers = list(self._answers)
        return other

    def __eq__(self, other):
        return (isinstance(other, Hall) and self._people == other._people and self._kind == other._kind
                and self._known == other._known and self._adders == other._adders
                and self._noticed == other._noticed)

    def __len__(self):
        return len(self._answers)

    def __repr__(self):
        return f"Hall({self._people} people, {len(self._noticed)} noticed)"

    def _check_person(self, person):
        if not 0 <= person < self._people:
            raise NoPerson(person)

    def _check_two(self, person, other):
        self._check_person(person)
        self._check_person(other)
        if person == other:
            raise Alone(person)

    def _check_added(self, head):
        for entry in head:
            if entry < MADE_UP and not 0 <= entry < len(self._adders):
                raise NotAdded(entry)

    def _compare(self, person, other, hearers):
        one = self._known[person]
        two = self._known[other]
        if not comparable(one, two):
            return self._notice("unlike", hearers)
        if self._kind == "short":
            return self._answer("fine")
        return self._learn(hearers, one if len(one) > len(two) else two)

    def _learn(self, hearers, head):
        for person in hearers:
            self._known[person] = head
        return self._answer("fine")

    def _notice(self, word, hearers):
        for person in hearers:
            if person not in self._noticed:
                self._noticed = sorted(self._noticed + [person])
        return self._answer(word)

    def _answer(self, answer):
        self._answers.append(answer)
        return answer


def noticed_at(timetable, kind, story):
    """The place of the first EVENT at which somebody notices, and who does; None if nobody ever does."""
    people, events = timetable
    heads = frozen(story)
    if not is_story(timetable, heads):
        raise BadStory()
    hall = Hall(people, kind)
    shown = 0
    for place, event in enumerate(events):
        if event[0] == "look":
            hall.do(event, heads[shown])
            shown += 1
        else:
            hall.do(event)
        if hall.noticed():
            return place, tuple(hall.noticed())
    return None


def is_unseen(timetable, kind, story):
    """Whether nobody ever notices."""
    return noticed_at(timetable, kind, story) is None


def is_kind(thing):
    """Whether thing is a kind of Hall."""
    return thing in ("long", "short")
