"""Point [14]: a session."""

import copy
import unittest

from hiddenforks import forks, more
from hiddenforks.data import is_timetable
from hiddenforks.errors import NoEvent, NoLook, NothingDone
from hiddenforks.hall import is_unseen
from hiddenforks.session import Session

from support import APART, CHAIN, FAR, KINDS, TABLE, TWICE, chance, check_error, listed, look_list, random_table, unlike

EDITS = ("put", "insert", "drop", "exchange", "turn", "undo")


def state(one):
    """All that a Session tells of itself."""
    return one.timetable(), one.kind(), one.many(), one.pairs()


class Plain:
    """A list of the timetables and kinds there were: the last one is the one of now."""

    def __init__(self, table, kind):
        self.rows = [(table, kind)]

    def copied(self):
        other = Plain(*self.rows[0])
        other.rows = list(self.rows)
        return other

    def do(self, word, *arguments):
        """The error that is raised, None if none is."""
        (people, events), kind = self.rows[-1]
        events = list(events)
        if word == "undo":
            if len(self.rows) == 1:
                return NothingDone, None
            self.rows = self.rows[:-1]
            return None
        if word == "put":
            events.append(arguments[0])
        elif word == "turn":
            kind = arguments[0]
        else:
            at = arguments[0]
            beyond = {"insert": len(events) + 1, "drop": len(events), "exchange": len(events) - 1}[word]
            if at not in range(beyond):
                return NoEvent, at
            if word == "insert":
                events.insert(at, arguments[1])
            elif word == "drop":
                events.pop(at)
            else:
                events[at], events[at + 1] = events[at + 1], events[at]
        self.rows.append(((people, tuple(events)), kind))
        return None


def random_edit(dice, table):
    """An edit that keeps the timetable small; its place may be none."""
    word = dice.choice(EDITS + ("undo", "drop") if len(table[1]) > 9 else EDITS + ("put", "insert"))
    event = dice.choice(random_table(dice, table[0], 1, 1, 2)[1])
    at = dice.randrange(-2, len(table[1]) + 3)
    return {"put": (word, event), "insert": (word, at, event), "drop": (word, at), "exchange": (word, at),
            "turn": (word, dice.choice(KINDS)), "undo": (word,)}[word]


class Beside(unittest.TestCase):
    """A Session beside a plain list."""

    def do_both(self, one, plain, edit):
        """Does the edit in both; whether it was refused."""
        word, *arguments = edit
        want = plain.do(*edit)
        if want is None:
            self.assertIsNone(getattr(one, word)(*arguments), edit)
        else:
            error, value = want
            before = state(one)
            with self.assertRaises(error) as caught:
                getattr(one, word)(*arguments)
            self.assertIs(type(caught.exception), error)
            self.assertEqual(vars(caught.exception), {} if error is NothingDone else {"number": value})
            self.assertEqual(state(one), before)
        self.assertEqual((one.timetable(), one.kind(), one.many()), (*plain.rows[-1], len(plain.rows) - 1), edit)
        return want is not None

    def test_long_rows_of_edits(self):
        dice = chance(121)
        said = {(word, refused): 0 for word in EDITS for refused in (False, True)}
        for _ in range(40):
            table, kind = random_table(dice, dice.randrange(2, 6), 2, 1, 2), dice.choice(KINDS)
            one, plain = Session(table, kind), Plain(table, kind)
            for _ in range(100):
                edit = random_edit(dice, one.timetable())
                said[edit[0], self.do_both(one, plain, edit)] += 1
                self.assertTrue(is_timetable(one.timetable()))
            self.check_queries(dice, one, *plain.rows[-1])
            while one.many():
                self.do_both(one, plain, ("undo",))
            self.do_both(one, plain, ("undo",))
            self.assertEqual(one.timetable(), table)
        self.assertEqual([key for key, many in said.items() if not many], [("put", True), ("turn", True)])

    def check_queries(self, dice, one, table, kind):
        """Just what the functions return, or raise."""
        self.assertEqual(one.pairs(), forks.hidden_pairs(table, kind))
        looks = len(look_list(table))
        allowed = list(random_table(dice, table[0], 0, 0, 2)[1])
        for i in range(-1, looks + 1):
            for j in [j for j in range(-1, looks + 1) if j != i]:
                for name, function, given in (("seen", forks.seen_at, (i, j)), ("story", forks.fork, (i, j)),
                                              ("mended", more.mend, ([(min(i, j), max(i, j))], allowed))):
                    missing = [look for look in (given if name != "mended" else given[0][0])
                               if look not in range(looks)]
                    if missing:
                        check_error(self, NoLook, missing[0], function, table, kind, *given)
                        check_error(self, NoLook, missing[0], getattr(one, name), *given)
                    else:
                        self.assertEqual(getattr(one, name)(*given), function(table, kind, *given))

    def test_queries_change_nothing(self):
        dice = chance(122)
        for _ in range(30):
            table, kind = random_table(dice, 4, 3, 1, 3), dice.choice(KINDS)
            one = Session(table, kind)
            one.put(("look", 0))
            before = state(one)
            self.check_queries(dice, one, *before[:2])
            one.twin()
            self.assertEqual(state(one), before)

    def test_twins_that_go_their_own_ways(self):
        dice = chance(123)
        for _ in range(30):
            table, kind = random_table(dice, 3, 2, 1, 1), dice.choice(KINDS)
            both = [(Session(table, kind), Plain(table, kind))]
            for at in range(60):
                if at in (5, 20, 30):
                    one, plain = dice.choice(both)
                    both.append((one.twin(), plain.copied()))
                    self.assertEqual(state(both[-1][0]), state(one))
                one, plain = dice.choice(both)
                self.do_both(one, plain, random_edit(dice, one.timetable()))
                for other, told in both:
                    self.assertEqual((other.timetable(), other.kind(), other.many()),
                                     (*told.rows[-1], len(told.rows) - 1))
            for one, plain in both:
                while one.many():
                    self.do_both(one, plain, ("undo",))


class Edits(unittest.TestCase):

    def test_put(self):
        one = Session((2, ()), "long")
        self.assertIsNone(one.put(("look", 1)))
        self.assertIsNone(one.put(("tell", 1, 0)))
        self.assertEqual(state(one), ((2, (("look", 1), ("tell", 1, 0))), "long", 2, []))

    def test_insert_ahead_of_each_place_and_behind_the_last_one(self):
        for at in range(5):
            one = Session(APART, "short")
            self.assertIsNone(one.insert(at, ("add", 2)))
            self.assertEqual(one.timetable(), (4, APART[1][:at] + (("add", 2),) + APART[1][at:]))
        for at in (-1, 5, 6, -4, -5, 10 ** 20):
            one = Session(APART, "short")
            check_error(self, NoEvent, at, one.insert, at, ("add", 2))
            self.assertEqual(state(one)[:3], (APART, "short", 0))
        one = Session((1, ()), "long")
        check_error(self, NoEvent, 1, one.insert, 1, ("add", 0))
        one.insert(0, ("add", 0))
        self.assertEqual(one.timetable(), (1, (("add", 0),)))

    def test_drop_each_place_and_none_beyond(self):
        for at in range(4):
            one = Session(APART, "long")
            self.assertIsNone(one.drop(at))
            self.assertEqual(one.timetable(), (4, APART[1][:at] + APART[1][at + 1:]))
        for at in (-1, -4, 4, 5, -10 ** 20):
            one = Session(APART, "long")
            check_error(self, NoEvent, at, one.drop, at)
            self.assertEqual(state(one)[:3], (APART, "long", 0))
        check_error(self, NoEvent, 0, Session((3, ()), "long").drop, 0)

    def test_exchange_each_place_but_the_last_one(self):
        for at in range(3):
            one = Session(APART, "long")
            self.assertIsNone(one.exchange(at))
            people = [0, 1, 2, 3]
            people[at:at + 2] = [at + 1, at]
            self.assertEqual(one.timetable(), (4, tuple(("look", person) for person in people)))
        for at in (-1, -2, 3, 4):
            one = Session(APART, "long")
            check_error(self, NoEvent, at, one.exchange, at)
            self.assertEqual(state(one)[:3], (APART, "long", 0))
        check_error(self, NoEvent, 0, Session((3, ()), "long").exchange, 0)
        check_error(self, NoEvent, 0, Session((3, (("add", 0),)), "long").exchange, 0)

    def test_turn_also_to_the_same_kind(self):
        one = Session(TABLE, "long")
        self.assertIsNone(one.turn("long"))
        self.assertEqual((one.kind(), one.many(), one.pairs()), ("long", 1, []))
        self.assertIsNone(one.turn("short"))
        self.assertEqual((one.kind(), one.many(), one.pairs()), ("short", 2, [(0, 1), (0, 2)]))
        one.undo()
        self.assertEqual((one.kind(), one.many()), ("long", 1))
        one.undo()
        self.assertEqual((one.kind(), one.many(), one.timetable()), ("long", 0, TABLE))

    def test_undo_of_edits_that_changed_nothing(self):
        one = Session(TWICE, "long")
        one.put(("add", 0)), one.turn("long"), one.exchange(2), one.insert(3, TWICE[1][3]), one.drop(3)
        self.assertEqual((one.timetable(), one.many()), ((2, TWICE[1] + (("add", 0),)), 5))
        for left in (4, 3, 2, 1):
            self.assertIsNone(one.undo())
            self.assertEqual(one.many(), left)
        self.assertEqual(one.timetable(), (2, TWICE[1] + (("add", 0),)))
        one.undo()
        self.assertEqual(state(one), (TWICE, "long", 0, []))

    def test_more_undos_than_edits(self):
        one = Session(FAR, "long")
        check_error_without_value(self, one)
        one.drop(0), one.undo()
        check_error_without_value(self, one)
        one.put(("add", 0)), one.turn("short"), one.undo(), one.undo()
        for _ in range(3):
            check_error_without_value(self, one)
        self.assertEqual(state(one), (FAR, "long", 0, [(0, 1), (0, 2)]))

    def test_an_undone_edit_is_gone(self):
        one = Session((2, ()), "long")
        one.put(("look", 0)), one.put(("look", 1)), one.undo(), one.put(("add", 1)), one.undo(), one.undo()
        self.assertEqual((one.timetable(), one.many()), ((2, ()), 0))

    def test_a_refused_edit_is_none_to_undo(self):
        one = Session(FAR, "long")
        one.put(("add", 0))
        for edit in (lambda: one.drop(7), lambda: one.insert(8, ("add", 0)), lambda: one.exchange(6),
                     lambda: one.seen(0, 9), lambda: one.story(9, 0), lambda: one.mended([(0, 9)], [])):
            self.assertRaises(LookupError, edit)
        self.assertEqual(one.many(), 1)
        one.undo()
        self.assertEqual(one.timetable(), FAR)


def check_error_without_value(case, one):
    with case.assertRaises(NothingDone) as caught:
        one.undo()
    case.assertIs(type(caught.exception), NothingDone)
    case.assertEqual(vars(caught.exception), {})
    case.assertEqual(one.many(), 0)


class Queries(unittest.TestCase):

    def test_of_the_timetable_as_it_is_then(self):
        one = Session(FAR, "long")
        self.assertEqual((one.seen(0, 2), one.pairs()), (None, [(0, 1), (0, 2)]))
        self.assertTrue(unlike(one.story(0, 2)[0], one.story(0, 2)[2]) and is_unseen(FAR, "long", one.story(0, 2)))
        self.assertEqual(one.mended([(0, 2)], CHAIN[:1]), (("meet", 0, 1),))
        one.put(("meet", 0, 1))
        self.assertEqual((one.seen(0, 2), one.story(0, 2), one.pairs(), one.mended([(0, 2)], [])), (6, None, [], ()))
        one.drop(1)
        self.assertEqual((one.seen(0, 1), one.seen(0, 2), one.pairs()), (5, None, [(0, 2)]))
        one.turn("short")
        self.assertEqual((one.seen(0, 1), one.seen(0, 2), one.pairs()), (5, None, [(0, 2), (1, 2)]))
        self.assertIsNone(one.mended([(0, 2)], [("meet", 2, 3), ("add", 1)]))
        self.assertEqual(one.mended(pairs=[(0, 2)], allowed=[("tell", 3, 0), ("meet", 3, 0)]), (("meet", 3, 0),))
        one.undo(), one.undo(), one.undo()
        self.assertEqual(state(one), (FAR, "long", 0, [(0, 1), (0, 2)]))

    def test_no_look(self):
        one = Session(APART, "long")
        for name in ("seen", "story"):
            for i, j, number in ((4, 5, 4), (0, 4, 4), (-1, 9, -1), (3, -1, -1), (9, 0, 9)):
                check_error(self, NoLook, number, getattr(one, name), i, j)
        for pairs, number in (([(0, 4)], 4), ([(0, 1), (-1, 7)], -1), ([[2, 3], [5, 6]], 5)):
            check_error(self, NoLook, number, one.mended, pairs, CHAIN)
        one.drop(3)
        check_error(self, NoLook, 3, one.seen, 3, 0)
        one.undo()
        self.assertIsNone(one.seen(3, 0))

    def test_what_is_returned_is_new(self):
        one = Session(APART, "long")
        one.pairs().append("mine")
        self.assertEqual(len(one.pairs()), 6)
        self.assertIsNot(one.pairs(), one.pairs())
        self.assertEqual((type(one.pairs()), type(one.timetable()), type(one.many())), (list, tuple, int))
        self.assertTrue(is_timetable(one.timetable()))


class Copies(unittest.TestCase):

    def test_lists_for_tuples_and_changed_behind_it(self):
        for table in (listed(FAR), [4, FAR[1]], (4, listed(FAR[1])), [4, [list(event) for event in FAR[1]]]):
            one = Session(table, "long")
            before = copy.deepcopy(table)
            one.put(["look", 2]), one.insert(0, ["add", 3]), one.drop(0), one.exchange(0)
            self.assertEqual(table, before)
            for _ in range(4):
                one.undo()
            if isinstance(table, list):
                table[0] = 9
                table[1] = []
            elif isinstance(table[1], list):
                table[1][0][1] = 7
                table[1].append(["look", 0])
            self.assertEqual(one.timetable(), FAR)
            self.assertTrue(is_timetable(one.timetable()))

    def test_events_that_are_changed_behind_it(self):
        one = Session([2, []], "long")
        for edit in (one.put, lambda event: one.insert(0, event)):
            event = ["tell", 0, 1]
            edit(event)
            event[0] = "meet"
            event.append(1)
        self.assertEqual(one.timetable(), (2, (("tell", 0, 1), ("tell", 0, 1))))
        self.assertTrue(is_timetable(one.timetable()))

    def test_arguments_by_names(self):
        one = Session(kind="short", timetable=FAR)
        one.put(event=("look", 2)), one.insert(event=("add", 0), at=0), one.drop(at=0), one.exchange(at=0)
        one.turn(kind="long")
        self.assertEqual((one.timetable()[1][:2], one.kind(), one.many()), ((("add", 1), ("look", 0)), "long", 5))
        self.assertEqual(one.seen(j=0, i=1), one.seen(1, 0))
        self.assertEqual(one.story(j=0, i=3), one.story(3, 0))
        self.assertEqual(one.mended(allowed=listed(CHAIN), pairs=[[0, 1]]), one.mended([(0, 1)], CHAIN))

    def test_arguments_stay_as_they_are(self):
        one = Session(listed(APART), "long")
        pairs, allowed, event = [[0, 1], [0, 2]], listed(CHAIN), ["meet", 0, 3]
        before = copy.deepcopy((pairs, allowed, event))
        one.mended(pairs, allowed), one.put(event), one.mended(pairs, allowed)
        self.assertEqual((pairs, allowed, event), before)

    def test_twins(self):
        one = Session(FAR, "long")
        one.put(("meet", 0, 1)), one.turn("short")
        other = one.twin()
        self.assertIs(type(other), Session)
        self.assertIsNot(other, one)
        self.assertEqual(state(other), state(one))
        other.undo(), other.drop(0)
        self.assertEqual(state(one)[:3], (more.behind(FAR, [("meet", 0, 1)]), "short", 2))
        one.undo(), one.undo()
        self.assertEqual(state(one)[:3], (FAR, "long", 0))
        self.assertEqual(state(other)[:3], ((4, more.behind(FAR, [("meet", 0, 1)])[1][1:]), "long", 2))
        other.undo(), other.undo()
        self.assertEqual(state(other), state(one))
        check_error_without_value(self, other)

    def test_a_twin_of_a_twin_that_was_not_edited(self):
        other = Session(TABLE, "short").twin().twin()
        self.assertEqual(state(other), (TABLE, "short", 0, [(0, 1), (0, 2)]))


class Bounds(unittest.TestCase):

    def test_at_the_bounds(self):
        table = (6, tuple([("look", k % 6) for k in range(8)] + [("meet", k % 5, k % 5 + 1) for k in range(7)]))
        for kind in KINDS:
            one = Session(table, kind)
            one.put(("tell", 5, 0))
            self.assertEqual(len(one.timetable()[1]), 16)
            for at in range(15):
                one.exchange(at)
                self.assertEqual(one.pairs(), forks.hidden_pairs(one.timetable(), kind))
            for _ in range(16):
                one.undo()
            self.assertEqual(one.timetable(), table)
        twelve = (6, tuple([("look", k) for k in range(6)] + [("add", 2)] * 3 + CHAIN))
        allowed = [("tell", 4, 5), ("look", 2), ("meet", 3, 4), ("tell", 5, 0)]
        for kind in KINDS:
            one = Session(twelve, kind)
            self.assertEqual(one.mended([(0, 5), (3, 4)], allowed), more.mend(twelve, kind, [(0, 5), (3, 4)], allowed))


if __name__ == "__main__":
    unittest.main()
