"""Points [2], [3] and [15]: the general rules and the interface, over all that has landed."""

import ast
import copy
import inspect
import pathlib
import unittest

from hiddenforks import branches, data, desk, errors, faults, forks, hall, keeping, more, plans, session, texts
from hiddenforks.forks import fork, paper
from hiddenforks.hall import Hall, noticed_at
from hiddenforks.session import Session

from support import (APART, CHAIN, DRAWN, FAR, HEARD, KINDS, LINE, TABLE, TWICE, junk, large_tables, listed, nested,
                     tupled)

INTERFACE = {
    data: {"is_event": "people thing", "is_timetable": "thing", "is_head": "thing", "is_story": "timetable thing",
           "looks": "timetable", "adds": "timetable", "begins": "head other", "comparable": "head other"},
    hall: {"noticed_at": "timetable kind story", "is_unseen": "timetable kind story", "is_kind": "thing",
           "Hall": "people kind"},
    forks: {"alikes": "timetable kind", "leads": "timetable kind", "hidden": "timetable kind i j",
            "hidden_pairs": "timetable kind", "fork": "timetable kind i j", "seen_at": "timetable kind i j",
            "paper": "timetable kind i j", "shows_seen": "timetable kind i j thing"},
    faults: {"remaining": "timetable liars lost", "look_left": "timetable liars look", "nets": "timetable kind i j",
             "circles": "timetable kind i j", "least_lost": "timetable kind i j", "least_liars": "timetable kind i j",
             "lost_paper": "timetable kind i j", "shows_least": "timetable kind i j lost thing",
             "faults": "timetable kind i j many", "frontier": "timetable kind i j", "fragile": "timetable kind many"},
    keeping: {"kept_from": "timetable kind i", "keep_story": "timetable kind i people",
              "keep_way": "timetable kind i people", "known_at": "timetable kind i person",
              "add_kept_from": "timetable kind entry", "audiences": "timetable kind i",
              "shown_to": "timetable kind i people", "keep_all": "timetable kind wishes",
              "wish_way": "timetable kind wishes", "clash": "timetable kind wishes"},
    branches: {"most_branches": "timetable kind", "course": "timetable kind", "together": "timetable kind pairs alike",
               "story_of": "timetable kind pairs alike", "knot": "timetable kind pairs alike",
               "is_knot": "timetable kind pairs alike thing", "most_pairs": "timetable kind", "spare": "timetable kind",
               "least_same": "timetable kind"},
    plans: {"known_by": "people way plan", "unknown_pairs": "people way plan", "reaches": "people way plan goal",
            "against": "people way plan goal", "fewest_meetings": "people way graph goal",
            "meeting_plan": "people way graph goal", "fewest_rounds": "people", "rounds_plan": "people",
            "shows_rounds": "people thing", "best_order": "people way plan", "weak_meetings": "people way plan",
            "weak_people": "people way plan"},
    more: {"behind": "timetable events", "unmended": "timetable kind pairs events",
           "unmended_story": "timetable kind pairs events", "mend": "timetable kind pairs allowed",
           "is_mended": "timetable kind pairs allowed thing", "reach": "timetable kind i",
           "first_unlike": "timetable other kind"},
    texts: {"timetable_text": "timetable", "story_text": "story", "timetable_in": "text", "story_in": "text"},
    desk: {"answers": "text"},
    session: {"Session": "timetable kind"},
}
METHODS = {
    Hall: {"look": "person head", "add": "person", "meet": "person other", "tell": "person other", "do": "event head",
           "knows": "person", "wants": "person", "noticed": "", "adders": "", "twin": "", "__eq__": "other",
           "__len__": "", "__repr__": ""},
    Session: {"put": "event", "insert": "at event", "drop": "at", "exchange": "at", "turn": "kind", "undo": "",
              "timetable": "", "kind": "", "many": "", "pairs": "", "seen": "i j", "story": "i j",
              "mended": "pairs allowed", "twin": ""},
}
STORY = ((1000,), (1001,), (0, 1002))
LISTS = (data.looks, data.adds, forks.alikes, forks.leads, forks.hidden_pairs, faults.nets, faults.circles,
         faults.frontier, faults.fragile, keeping.kept_from, keeping.add_kept_from, keeping.audiences, branches.course,
         branches.spare, plans.known_by, plans.unknown_pairs, plans.weak_meetings, plans.weak_people, more.unmended,
         more.reach, desk.answers)
TUPLES = (noticed_at, fork, paper, faults.remaining, faults.least_lost, faults.least_liars, faults.lost_paper,
          faults.faults, keeping.keep_story, keeping.shown_to, keeping.keep_all, keeping.clash, branches.most_branches,
          branches.story_of, branches.knot, branches.most_pairs, branches.least_same, plans.against, plans.meeting_plan,
          plans.rounds_plan, plans.best_order, more.behind, more.unmended_story, more.mend, more.first_unlike,
          texts.timetable_in, texts.story_in)


def calls():
    """Functions with arguments, and whether the last one is a thing."""
    yield data.is_event, (3, ("meet", 0, 1)), True
    yield data.is_timetable, (TABLE,), True
    yield data.is_head, ((1, 0),), True
    for table in (TABLE, DRAWN, (1, ())):
        yield data.looks, (table,), False
        yield data.adds, (table,), False
        for kind in KINDS:
            yield forks.alikes, (table, kind), False
            yield forks.leads, (table, kind), False
            yield forks.hidden_pairs, (table, kind), False
    yield data.is_story, (TABLE, STORY), True
    for function in (data.begins, data.comparable):
        yield function, ((1, 2), (1, 2, 3)), False
        yield function, ((1, 2), (2, 1)), False
    for kind in KINDS:
        yield hall.is_kind, (kind,), True
        yield hall.noticed_at, (TABLE, kind, STORY), False
        yield hall.is_unseen, (TABLE, kind, ((1000,), (), (1000, 0))), False
        for i, j in ((0, 1), (1, 0), (1, 2), (2, 0)):
            for function in (forks.hidden, forks.fork, forks.seen_at, forks.paper):
                yield function, (TABLE, kind, i, j), False
            yield forks.shows_seen, (TABLE, kind, i, j, paper(TABLE, kind, i, j)), True
    yield from fault_calls()
    yield from keeping_calls()
    yield from branch_calls()
    yield from plan_calls()
    yield from more_calls()
    yield from text_calls()


def fault_calls():
    for liars, lost in (((), ()), ((0,), (5, 5)), ((2, 1), (2,))):
        yield faults.remaining, (TABLE, liars, lost), False
    yield faults.look_left, (TABLE, (0,), 1), False
    for kind in KINDS:
        for table in (TABLE, TWICE, DRAWN):
            for function in (faults.nets, faults.circles, faults.least_lost, faults.least_liars, faults.lost_paper,
                             faults.frontier):
                yield function, (table, kind, 0, 1), False
            yield faults.faults, (table, kind, 1, 0, 1), False
            yield faults.fragile, (table, kind, 1), False
        yield faults.shows_least, (TWICE, kind, 0, 1, (3, 2), ((2,), (3,))), True
        yield faults.shows_least, (TABLE, kind, 0, 1, (5,), ((2, 5),)), True


def keeping_calls():
    for kind in KINDS:
        for table in (TABLE, HEARD):
            for i in (0, 1):
                yield keeping.kept_from, (table, kind, i), False
                yield keeping.audiences, (table, kind, i), False
                yield keeping.known_at, (table, kind, i, 2), False
                for people in ((), (2,), (1, 0, 1)):
                    for function in (keeping.keep_story, keeping.keep_way, keeping.shown_to):
                        yield function, (table, kind, i, people), False
            for wishes in ((), ((0, 1),), ((1, 0), (0, 1), (1, 0))):
                for function in (keeping.keep_all, keeping.wish_way, keeping.clash):
                    yield function, (table, kind, wishes), False
        yield keeping.shown_to, (TABLE, kind, 0, (2, 0)), False
        yield keeping.add_kept_from, (TABLE, kind, 0), False


def branch_calls():
    for kind in KINDS:
        for table in (TABLE, LINE, TWICE):
            for function in (branches.most_branches, branches.course, branches.most_pairs, branches.spare,
                             branches.least_same):
                yield function, (table, kind), False
            for wishes in ((((0, 1),),), ((), ()), (((1, 0),), ((0, 1),))):
                for function in (branches.together, branches.story_of, branches.knot):
                    yield function, (table, kind) + wishes, False
        yield branches.story_of, (LINE, kind, ((0, 4), (1, 4)), ()), False
        yield branches.is_knot, (LINE, kind, ((0, 4), (3, 4)), (), (0, 1, 2, 3, 4)), True


def plan_calls():
    for way in ("meet", "tell"):
        for plan in ((), ((1, 2), (0, 1), (2, 3), (0, 1))):
            for function in (plans.known_by, plans.unknown_pairs, plans.best_order, plans.weak_meetings,
                             plans.weak_people):
                yield function, (4, way, plan), False
            for goal in ("somebody", "everybody"):
                for function in (plans.reaches, plans.against, plans.fewest_meetings, plans.meeting_plan):
                    yield function, (4, way, tuple(sorted(set(plan))), goal), False
        ring = tuple((p, (p + 1) % 4) for p in range(4)) if way == "tell" else ((0, 1), (0, 3), (1, 2), (2, 3))
        yield plans.meeting_plan, (4, way, ring, "everybody"), False
    yield plans.fewest_rounds, (5,), False
    yield plans.rounds_plan, (6,), False
    yield plans.shows_rounds, (3, (((0, 1),), ((1, 2),), ((0, 1),))), True


def more_calls():
    for events in ((), (("meet", 0, 1), ("look", 0), ("meet", 0, 1))):
        yield more.behind, (FAR, events), False
    for kind in KINDS:
        for table in (FAR, APART, LINE):
            for pairs in ((), ((0, 1),), ((0, 2), (0, 1), (0, 2))):
                for events in ((), tuple(CHAIN), (("tell", 0, 1), ("add", 1), ("look", 1))):
                    for function in (more.unmended, more.unmended_story, more.mend):
                        yield function, (table, kind, pairs, events), False
                    yield more.is_mended, (table, kind, pairs, events, events), True
            yield more.reach, (table, kind, 0), False
            yield more.first_unlike, (table, APART, kind), False


def text_calls():
    for table in (FAR, LINE, (1, ())):
        yield texts.timetable_text, (table,), False
        yield texts.timetable_in, (texts.timetable_text(table),), False
    for story in (STORY, (), ((), (1000, 0))):
        yield texts.story_text, (story,), False
        yield texts.story_in, (texts.story_text(story),), False
    yield desk.answers, (texts.timetable_text(FAR) + "\n\nlong",), False
    yield desk.answers, (texts.timetable_text(FAR) + "\n\nlong\npairs\nmeet 0 1\nfork 0 2\nlost 0 2\nkept 9",), False


def with_lists(arguments, has_thing):
    """The arguments with lists for tuples; a thing stays as it is, since a list is another thing."""
    if has_thing:
        return listed(arguments[:-1]) + [arguments[-1]]
    return listed(arguments)


class General(unittest.TestCase):

    def test_the_same_call_with_lists_by_names_and_again(self):
        for function, arguments, has_thing in calls():
            names = list(inspect.signature(function).parameters)
            want = function(*arguments)
            for given in (arguments, with_lists(arguments, has_thing)):
                for got in (function(*given), function(**dict(reversed(list(zip(names, given))))),
                            function(*given[:1], **dict(zip(names[1:], given[1:]))), function(*given)):
                    self.assertEqual(repr(got), repr(want), (function.__name__, given))

    def test_lists_at_some_depths_only(self):
        story = [(1000,), [1001], [0, 1002]]
        for table in ([3, TABLE[1]], (3, listed(TABLE[1])), (3, [["look", 0]] + list(TABLE[1][1:])),
                      (3, (["look", 0],) + TABLE[1][1:])):
            self.assertEqual(data.looks(table), data.looks(TABLE))
            self.assertEqual(noticed_at(table, "long", story), noticed_at(TABLE, "long", STORY))
            self.assertEqual(forks.leads(table, "long"), forks.leads(TABLE, "long"))
            self.assertEqual(paper(table, "long", 0, 1), paper(TABLE, "long", 0, 1))
            self.assertEqual(fork(table, "short", 0, 1), fork(TABLE, "short", 0, 1))

    def test_arguments_stay_as_they_are(self):
        for function, arguments, has_thing in calls():
            for given in (arguments, with_lists(arguments, has_thing)):
                before = copy.deepcopy(given)
                function(*given)
                self.assertEqual(repr(given), repr(before), function.__name__)

    def test_returned_lists_are_new_and_of_tuples(self):
        for function, arguments, has_thing in calls():
            given = with_lists(arguments, has_thing)
            got = function(*given)
            if function is plans.known_by:
                self.assertEqual({type(row) for row in got}, {list})
            else:
                self.assertEqual(got, [tupled(row) for row in got] if isinstance(got, list) else tupled(got))
            self.assertIs(isinstance(got, list), function in LISTS, function.__name__)
            if function in TUPLES:
                self.assertIn(type(got), (tuple, type(None)), function.__name__)
            if isinstance(got, list):
                want = list(got)
                got.append("mine")
                got[:1] = []
                self.assertEqual(function(*given), want, function.__name__)
                self.assertIsNot(function(*given), function(*given))

    def test_a_thing_of_any_kind_is_answered_by_a_bool(self):
        things = junk() + [nested(12, thing, make) for thing in (0, True, None, "look", ()) for make in (tuple, list)]
        for function, arguments, has_thing in calls():
            if has_thing:
                for thing in things + [listed(arguments[-1])]:
                    self.assertIs(type(function(*arguments[:-1], thing)), bool, (function.__name__, thing))

    def test_things_are_not_changed(self):
        for function, arguments, has_thing in calls():
            if has_thing:
                for thing in junk() + [listed(arguments[-1])]:
                    before = repr(thing)
                    function(*arguments[:-1], thing)
                    self.assertEqual(repr(thing), before)

    def test_a_hall_copies_what_it_is_passed_and_gives_what_is_new(self):
        one = Hall(2, "long")
        head, event = [1000, 1001], ["look", 1]
        one.look(0, head), one.do(event, head), one.add(0)
        head.append(1002), event.append(7)
        self.assertEqual((one.knows(0), one.knows(1)), ((1000, 1001), (1000, 1001)))
        for query in (one.noticed, one.adders, lambda: one.wants(0)):
            self.assertIs(type(query()), list)
            want = tuple(query())
            query().append(9)
            self.assertEqual(tuple(query()), want)
        one.look(0, ())
        one.noticed().append(1), one.adders().append(1)
        self.assertEqual((one.noticed(), one.adders(), repr(one)), ([0], [0], "Hall(2 people, 1 noticed)"))

    def test_the_methods_by_names_and_with_lists(self):
        one, other = Hall(people=3, kind="long"), Hall(3, "long")
        got = [one.add(person=0), one.look(person=0, head=[0, 1000]), one.meet(person=0, other=1),
               one.look(head=(1001,), person=2), one.tell(other=2, person=1), one.do(event=["look", 1], head=[0]),
               one.do(head=None, event=["meet", 1, 0]), one.knows(person=1), one.wants(person=0)]
        want = [other.add(0), other.look(0, (0, 1000)), other.meet(0, 1), other.look(2, (1001,)), other.tell(1, 2),
                other.do(("look", 1), (0,)), other.do(("meet", 1, 0)), other.knows(1), other.wants(0)]
        self.assertEqual(got, want)
        self.assertEqual(want, [0, "fine", "fine", "fine", "unlike", "unlike", "fine", (0, 1000), [0]])
        self.assertTrue(one == other)


class Interface(unittest.TestCase):

    def test_names_arguments_and_files(self):
        for module, functions in INTERFACE.items():
            for name, parameters in functions.items():
                function = getattr(module, name)
                told = inspect.signature(function).parameters
                self.assertEqual(list(told), parameters.split(), name)
                if name not in ("Hall", "Session"):
                    left_out = ["alike"] if name in ("together", "story_of", "knot") else []
                    self.assertEqual([one for one in told if told[one].default is not inspect.Parameter.empty],
                                     left_out)
                self.assertEqual(function.__module__, module.__name__, name)

    def test_the_methods_stand_in_the_class_itself(self):
        defaults = []
        for made, methods in METHODS.items():
            self.assertEqual(made.__bases__, (object,))
            for name, parameters in methods.items():
                told = inspect.signature(vars(made)[name]).parameters
                self.assertEqual(list(told), ["self"] + parameters.split(), name)
                defaults += [(name, one.default) for one in told.values() if one.default is not inspect.Parameter.empty]
        self.assertEqual(defaults, [("do", None)])

    def test_all_is_defined_in_its_own_file(self):
        for module, functions in list(INTERFACE.items()) + [(errors, {"NoLook": "", "BadStory": ""})]:
            tree = ast.parse(pathlib.Path(module.__file__).read_text())
            defined = {node.name for node in tree.body if isinstance(node, (ast.FunctionDef, ast.ClassDef))}
            self.assertLessEqual(set(functions), defined)


class Bounds(unittest.TestCase):

    def test_timetables_at_the_bounds(self):
        tables = list(large_tables(61, 8))
        self.assertEqual((tables[0][0], len(tables[0][1]), len(data.looks(tables[0]))), (6, 16, 8))
        self.assertEqual(len([event for event in tables[0][1] if event[0] in ("meet", "tell")]), 8)
        for table in tables:
            self.assertIs(data.is_timetable(table), True)
            for kind in KINDS:
                self.check_table(table, kind)

    def check_table(self, table, kind):
        many = len(data.looks(table))
        story = tuple((1000,) for _ in range(many))
        self.assertIs(data.is_story(table, story), True)
        self.assertEqual(hall.is_unseen(table, kind, story), noticed_at(table, kind, story) is None)
        self.assertEqual(len(forks.alikes(table, kind)) + len(forks.hidden_pairs(table, kind)), many * (many - 1) // 2)
        self.assertLessEqual(set(forks.leads(table, kind)), set(forks.alikes(table, kind)))
        for i in range(many):
            for j in range(many):
                if i != j:
                    answers = (forks.hidden(table, kind, i, j), fork(table, kind, i, j) is not None,
                               forks.seen_at(table, kind, i, j) is None, paper(table, kind, i, j) is None,
                               not forks.shows_seen(table, kind, i, j, paper(table, kind, i, j)))
                    self.assertIn(answers, ((True,) * 5, (False,) * 5))

    def test_a_long_hall(self):
        for kind in KINDS:
            one = Hall(6, kind)
            for at in range(30):
                self.assertEqual(one.add(at % 6), at)
            for at in range(15):
                head = tuple(range(30)) + tuple(range(1000, 1000 + at))
                self.assertEqual(one.look(at % 6, head), "fine")
                self.assertEqual(one.meet(at % 6, (at + 1) % 6), "fine")
            self.assertEqual((len(one), one.noticed(), one.wants(5)), (60, [], [5, 11, 17, 23, 29]))
            self.assertEqual(one.knows(14 % 6), tuple(range(30)) + tuple(range(1000, 1014)))
            self.assertTrue(one == one.twin())

    def test_somewhat_beyond_the_bounds(self):
        table = (8, tuple(("look", k % 8) for k in range(12)) + tuple(("meet", k % 7, k % 7 + 1) for k in range(12)))
        for kind in KINDS:
            self.check_table(table, kind)


if __name__ == "__main__":
    unittest.main()
