"""A TIMETABLE that is edited."""

from hiddenforks.errors import NoEvent, NothingDone
from hiddenforks.forks import fork, hidden_pairs, seen_at
from hiddenforks.more import behind, mend
from hiddenforks.plain import frozen


class Session:
    """A TIMETABLE and a kind, what edits make of them, and the way back."""

    def __init__(self, timetable, kind):
        self._timetable = frozen(timetable)
        self._kind = kind
        self._undos = []

    def put(self, event):
        """The EVENT stands behind the last one."""
        self._edit(behind(self._timetable, [event]), self._kind)

    def insert(self, at, event):
        """The EVENT stands ahead of the one at this place, or behind the last one."""
        ahead, rest = self._parted(at, 0)
        self._edit_events(ahead + (frozen(event),) + rest)

    def drop(self, at):
        """The EVENT at this place goes."""
        ahead, rest = self._parted(at, 1)
        self._edit_events(ahead + rest[1:])

    def exchange(self, at):
        """The EVENT at this place and the next one exchange their places."""
        ahead, rest = self._parted(at, 2)
        self._edit_events(ahead + (rest[1], rest[0]) + rest[2:])

    def turn(self, kind):
        """The kind is this one from now on."""
        self._edit(self._timetable, kind)

    def undo(self):
        """Takes back the last edit that was not taken back."""
        if not self._undos:
            raise NothingDone()
        self._timetable, self._kind = self._undos.pop()

    def timetable(self):
        """The TIMETABLE as it is now."""
        return self._timetable

    def kind(self):
        """The kind as it is now."""
        return self._kind

    def many(self):
        """How many undos are possible."""
        return len(self._undos)

    def pairs(self):
        """The pairs of LOOKs that are hidden."""
        return hidden_pairs(self._timetable, self._kind)

    def seen(self, i, j):
        """The place of the first EVENT behind which both LOOKs are not hidden; None if they are."""
        return seen_at(self._timetable, self._kind, i, j)

    def story(self, i, j):
        """An unseen STORY in which both LOOKs are unlike; None if there is none."""
        return fork(self._timetable, self._kind, i, j)

    def mended(self, pairs, allowed):
        """As few of the allowed EVENTs as can be, at most three, that mend the pairs; None if no three do."""
        return mend(self._timetable, self._kind, pairs, allowed)

    def twin(self):
        """A Session in the same state, with the same undos, that shares nothing with this one."""
        other = Session(self._timetable, self._kind)
        other._undos = list(self._undos)
        return other

    def _parted(self, at, many):
        """The EVENTs ahead of this place, and those from it on, which are so many at least."""
        _, events = self._timetable
        if not 0 <= at <= len(events) - many:
            raise NoEvent(at)
        return events[:at], events[at:]

    def _edit_events(self, events):
        people, _ = self._timetable
        self._edit((people, events), self._kind)

    def _edit(self, timetable, kind):
        self._undos.append((self._timetable, self._kind))
        self._timetable = timetable
        self._kind = kind
