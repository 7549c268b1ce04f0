"""Point [11]: what mends a timetable. Guarantee (f) of point [1]."""

import copy
import functools
import itertools
import unittest

from hiddenforks.data import is_story, is_timetable
from hiddenforks.errors import NoLook
from hiddenforks.forks import alikes, hidden_pairs, leads
from hiddenforks.hall import is_unseen
from hiddenforks.more import behind, first_unlike, is_mended, mend, reach, unmended, unmended_story

from support import (APART, CHAIN, DRAWN, FAR, HEARD, KINDS, LINE, TABLE, TWICE, chance, check_error, first_rules, junk,
                     large_tables, listed, look_list, nested, random_table, ruled, small_tables, starts, told_hidden,
                     tried_hidden, unlike, unseen_stories)

WITH_PAIRS = (unmended, unmended_story, mend, is_mended)


def longer(table, events):
    return table[0], table[1] + tuple(events)


def all_pairs(table):
    return list(itertools.combinations(range(len(look_list(table))), 2))


def some_events(dice, people, many):
    """Events of any word among these people."""
    return [dice.choice(random_table(dice, people, 1, 1, 4)[1]) for _ in range(many)]


def some_pairs(dice, table):
    """Any pairs of its looks, in any order, maybe some twice."""
    pairs = all_pairs(table)
    return [dice.choice(pairs) for _ in range(dice.randrange(4))] if pairs else []


def rows(allowed, most):
    """All rows of so many of these events at most: short ones first, then ascending."""
    return [row for many in range(most + 1) for row in itertools.product(sorted(set(allowed)), repeat=many)]


@functools.lru_cache(maxsize=None)
def tried(table, kind):
    return frozenset(tried_hidden(table, kind))


def random_cases(seed, many):
    """Timetables within the bounds, pairs of their looks, and events."""
    dice = chance(seed)
    for _ in range(many):
        people = dice.randrange(1, 6)
        table = random_table(dice, people, dice.randrange(1, 6), dice.randrange(3), dice.randrange(5))
        yield dice, table, some_pairs(dice, table)


class Behind(unittest.TestCase):

    def test_behind(self):
        self.assertEqual(behind(FAR, [("meet", 0, 1)]), (4, FAR[1] + (("meet", 0, 1),)))
        self.assertEqual(behind((2, ()), [("look", 1), ("add", 0), ("look", 1)]),
                         (2, (("look", 1), ("add", 0), ("look", 1))))

    def test_no_events_and_the_same_ones_twice(self):
        self.assertEqual(behind(FAR, []), FAR)
        self.assertEqual(behind(FAR, ()), FAR)
        self.assertEqual(behind(APART, CHAIN[:1] * 2), (4, APART[1] + (("meet", 0, 1), ("meet", 0, 1))))

    def test_it_is_a_timetable_also_of_lists(self):
        for dice, table, _ in random_cases(81, 50):
            events = some_events(dice, table[0], dice.randrange(4))
            for one in (table, listed(table)):
                for further in (events, tuple(events), listed(events)):
                    got = behind(one, further)
                    self.assertTrue(is_timetable(got))
                    self.assertEqual(got, longer(table, events))


class Unmended(unittest.TestCase):

    def test_against_the_rules_of_the_longer_one(self):
        said = [0, 0]
        for dice, table, pairs in random_cases(82, 300):
            events = some_events(dice, table[0], dice.randrange(4))
            for kind in KINDS:
                want = sorted(set(pairs) & set(told_hidden(longer(table, events), kind)))
                self.assertEqual(unmended(table, kind, pairs, events), want, (table, kind, pairs, events))
                self.assertEqual(want, [pair for pair in hidden_pairs(behind(table, events), kind) if pair in pairs])
                said[want == sorted(set(pairs))] += 1
                self.check_story(table, kind, pairs, events, want)
        self.assertGreater(min(said), 100)

    def check_story(self, table, kind, pairs, events, want):
        story = unmended_story(table, kind, pairs, events)
        self.assertEqual(story is None, not want)
        if story is not None:
            i, j = want[0]
            self.assertTrue(is_story(longer(table, events), story) and is_unseen(longer(table, events), kind, story))
            self.assertTrue(unlike(story[i], story[j]), (table, kind, pairs, events))

    def test_against_the_stories(self):
        for table in small_tables(83, 60):
            dice = chance(len(table[1]))
            events = [event for event in some_events(dice, table[0], 2) if event[0] != "look"]
            for kind in KINDS:
                want = sorted(tried(longer(table, events), kind))
                self.assertEqual(unmended(table, kind, all_pairs(table), events), want, (table, kind, events))

    def test_no_pairs_no_events_and_pairs_twice_in_any_order(self):
        for kind in KINDS:
            self.assertEqual(unmended(APART, kind, [], CHAIN), [])
            self.assertIsNone(unmended_story(APART, kind, [], []))
            self.assertEqual(unmended(APART, kind, [(2, 3), (0, 1), (2, 3)], []), [(0, 1), (2, 3)])
            self.assertEqual(unmended(APART, kind, ((0, 3), (0, 3)), ()), [(0, 3)])
        self.assertEqual(unmended(APART, "long", [(0, 2), (0, 1)], CHAIN[:1]), [(0, 2)])
        self.assertEqual(unmended(APART, "long", [[0, 2], [0, 1]], listed(CHAIN[:1])), [(0, 2)])

    def test_long_and_short(self):
        self.assertEqual(unmended(APART, "long", all_pairs(APART), CHAIN), [])
        self.assertEqual(unmended(APART, "short", all_pairs(APART), CHAIN), [(0, 2), (0, 3), (1, 3)])

    def test_the_story_is_one_of_the_longer_timetable_and_of_the_least_pair(self):
        story = unmended_story(APART, "long", [(2, 3), (0, 2), (0, 2)], [("look", 0), ("meet", 0, 1)])
        self.assertEqual(len(story), 5)
        self.assertTrue(unlike(story[0], story[2]))
        self.assertTrue(starts(story[0], story[4]))
        # If 3 and 4 are unlike in this one, 0 and 4 are not.
        story = unmended_story(LINE, "short", [(3, 4), (0, 4)], [])
        self.assertTrue(unlike(story[0], story[4]))
        self.assertFalse(unlike(story[3], story[4]))

    def test_a_look_among_the_further_events_is_none_of_the_pairs(self):
        events = [("look", 0), ("look", 1)]
        for function in (unmended, unmended_story):
            check_error(self, NoLook, 4, function, APART, "long", [(0, 4)], events)
            check_error(self, NoLook, 5, function, APART, "long", [(0, 1), (1, 5)], events)


class Mend(unittest.TestCase):

    def check_mend(self, table, kind, pairs, allowed, left):
        """Compares with the first row that mends of all of up to three events; left: what a longer timetable hides."""
        there = [row for row in rows(allowed, 3) if not set(pairs) & set(left(longer(table, row), kind))]
        want = there[0] if there else None
        self.assertEqual(mend(table, kind, pairs, allowed), want, (table, kind, pairs, allowed))
        return want, there

    def test_against_all_rows(self):
        sizes = {None: 0, 0: 0, 1: 0, 2: 0, 3: 0}
        dice = chance(84)
        for _ in range(300):
            people = dice.randrange(2, 5)
            table = random_table(dice, people, dice.randrange(2, 6), dice.randrange(3), dice.randrange(2))
            pairs = dice.sample(all_pairs(table), dice.randrange(1, len(all_pairs(table)) + 1))
            allowed = random_table(dice, people, dice.choice([0, 0, 1]), dice.choice([0, 0, 1]), dice.randrange(4))[1]
            for kind in KINDS:
                want, there = self.check_mend(table, kind, pairs, allowed, told_hidden)
                sizes[None if want is None else len(want)] += 1
                for row in dice.sample(rows(allowed, 3), min(5, len(rows(allowed, 3)))):
                    self.assertIs(is_mended(table, kind, pairs, allowed, row), row in there)
        self.assertGreater(min(sizes.values()), 0, sizes)

    def test_against_the_stories(self):
        sizes = set()
        dice = chance(85)
        for looks, adds, many in ((2, 1, 16), (3, 0, 10)):
            for _ in range(many):
                table = random_table(dice, dice.randrange(2, 5), looks, dice.randrange(adds + 1), dice.randrange(3))
                meetings = [event for event in some_events(dice, table[0], 4) if event[0] in ("meet", "tell")][:3]
                for kind in KINDS:
                    want, _ = self.check_mend(table, kind, all_pairs(table), meetings, tried)
                    sizes.add(None if want is None else len(want))
        self.assertLessEqual({None, 0, 1}, sizes)

    def test_of_chains_by_stories(self):
        for kind in KINDS:
            for pairs in ([(0, 1)], [(0, 2)], [(0, 1), (1, 2)]):
                want, _ = self.check_mend((3, APART[1][:3]), kind, pairs, CHAIN[:2], tried)
                self.assertEqual(want is None, (kind, pairs) == ("short", [(0, 2)]))
        self.check_mend(APART, "long", [(0, 3)], CHAIN, told_hidden)

    def test_with_looks_and_adds(self):
        table = (3, (("look", 0), ("look", 1), ("look", 2)))
        allowed = [("look", 2), ("add", 2), ("meet", 0, 2), ("tell", 1, 2)]
        for kind in KINDS:
            for pairs in ([(0, 1)], [(0, 2)], [(0, 1), (1, 2)]):
                self.check_mend(table, kind, pairs, allowed, told_hidden)
        drawn = (3, (("look", 0), ("look", 1), ("add", 2)))
        self.assertEqual(mend(drawn, "short", [(0, 1)], [("look", 2), ("meet", 1, 2), ("meet", 0, 2)]),
                         (("look", 2), ("meet", 0, 2), ("meet", 1, 2)))
        self.assertIn((0, 1), tried(longer(drawn, [("look", 2), ("meet", 0, 2)]), "short"))
        self.assertEqual(tried(longer(drawn, [("look", 2), ("meet", 0, 2), ("meet", 1, 2)]), "short"), frozenset())
        self.assertIsNone(mend(APART, "long", [(0, 1)], [("look", 0), ("add", 1), ("look", 1)]))

    def test_nothing_hidden_now(self):
        for kind in KINDS:
            self.assertEqual(mend(APART, kind, [], CHAIN), ())
            self.assertEqual(mend(APART, kind, [], []), ())
            self.assertEqual(mend(TWICE, kind, [(0, 1), (0, 1)], []), ())
            self.assertEqual(mend(TWICE, kind, [(0, 1)], [("add", 0)]), ())

    def test_nothing_that_mends(self):
        for kind in KINDS:
            self.assertIsNone(mend(APART, kind, [(0, 1)], []))
            self.assertIsNone(mend(APART, kind, [(0, 1)], [("meet", 2, 3), ("add", 0)]))
        self.assertIsNone(mend(APART, "short", [(0, 2)], CHAIN))

    def test_three_at_most(self):
        five = (5, APART[1] + (("look", 4),))
        chain = CHAIN + [("meet", 3, 4)]
        self.assertEqual(mend(five, "long", [(0, 3)], chain), tuple(CHAIN))
        self.assertIsNone(mend(five, "long", [(0, 4), (0, 1), (1, 3)], chain[:-1] + [("tell", 3, 4)]))
        self.assertIsNone(mend(five, "short", [(0, 1), (1, 2), (2, 3), (3, 4)], chain))
        self.assertEqual(mend(five, "short", [(0, 1), (1, 2), (2, 3)], chain), tuple(CHAIN))

    def test_as_few_as_can_be_then_the_least(self):
        self.assertEqual(mend(APART, "long", [(0, 1)], [("tell", 1, 0), ("tell", 0, 1), ("meet", 1, 0)]),
                         (("meet", 1, 0),))
        self.assertEqual(mend(APART, "short", [(2, 3), (0, 1)], [("tell", 3, 2), ("meet", 2, 3), ("meet", 1, 0)]),
                         (("meet", 1, 0), ("meet", 2, 3)))
        self.assertEqual(mend(APART, "long", [(0, 2)], CHAIN + [("tell", 2, 0)]), (("tell", 2, 0),))
        self.assertEqual(mend(APART, "long", [(0, 2)], [("tell", 1, 2), ("tell", 0, 1), ("meet", 0, 1)]),
                         (("meet", 0, 1), ("tell", 1, 2)))

    def test_allowed_twice_is_allowed_once(self):
        for allowed in (CHAIN * 2, listed(CHAIN) + CHAIN, tuple(reversed(CHAIN))):
            self.assertEqual(mend(APART, "long", [(0, 3)], allowed), tuple(CHAIN))

    def test_only_as_many_pairs_as_are_asked(self):
        self.assertEqual(mend(APART, "long", [(0, 1)], CHAIN), (("meet", 0, 1),))
        self.assertEqual(mend(FAR, "long", [(0, 2)], [("meet", 0, 1)]), (("meet", 0, 1),))
        self.assertEqual(told_hidden(longer(FAR, [("meet", 0, 1)]), "long"), [])


class IsMended(unittest.TestCase):

    def test_against_the_rules_of_the_longer_one(self):
        said = [0, 0]
        for dice, table, pairs in random_cases(86, 300):
            allowed = some_events(dice, table[0], dice.randrange(1, 4))
            for kind in KINDS:
                thing = tuple(dice.choice(allowed) for _ in range(dice.randrange(6)))
                want = not set(pairs) & set(told_hidden(longer(table, thing), kind))
                said[want] += 1
                self.assertIs(is_mended(table, kind, pairs, allowed, thing), want, (table, kind, pairs, thing))
        self.assertGreater(min(said), 100)

    def test_what_mend_returns(self):
        for dice, table, pairs in random_cases(87, 100):
            allowed = some_events(dice, table[0], 3)
            for kind in KINDS:
                row = mend(table, kind, pairs, allowed)
                if row is not None:
                    self.assertIs(is_mended(table, kind, pairs, allowed, row), True)
                    self.assertIs(is_mended(table, kind, pairs, allowed, row + row[:1]), True)
                    self.assertIs(is_mended(table, kind, pairs, allowed, list(row)), False)

    def test_rows_longer_than_three_and_events_more_than_once(self):
        five = (5, APART[1] + (("look", 4),))
        chain = CHAIN + [("meet", 3, 4)]
        self.assertIs(is_mended(five, "long", [(0, 4)], chain, tuple(chain)), True)
        self.assertIs(is_mended(five, "long", [(0, 4)], chain, tuple(chain[:-1])), False)
        self.assertIs(is_mended(five, "long", [(0, 4)], chain, tuple(reversed(chain))), True)
        self.assertIs(is_mended(five, "long", [(0, 4)], chain, (chain[0], chain[1], chain[3], chain[2])), True)
        self.assertIs(is_mended(APART, "long", [(0, 2)], CHAIN, (CHAIN[0],) * 3 + (CHAIN[1],) * 3), True)
        self.assertIs(is_mended(APART, "long", [(0, 2)], CHAIN, (CHAIN[0],) * 6), False)
        told = [("tell", 1, 0), ("tell", 2, 1), ("tell", 1, 0)]
        self.assertIs(is_mended(APART, "long", [(0, 1), (0, 2), (1, 2)], told, tuple(told)), True)
        self.assertIs(is_mended(APART, "long", [(0, 1), (0, 2), (1, 2)], told, tuple(told[:2])), False)

    def test_no_pairs_and_nothing_hidden_now(self):
        for kind in KINDS:
            for pairs in ([], [(0, 1)]):
                self.assertIs(is_mended(TWICE, kind, pairs, CHAIN[:1], ()), True)
                self.assertIs(is_mended(TWICE, kind, pairs, CHAIN[:1], (("meet", 0, 1),)), True)
                self.assertIs(is_mended(TWICE, kind, pairs, [], (("meet", 0, 1),)), False)
            self.assertIs(is_mended(APART, kind, [(0, 1)], CHAIN, ()), False)

    def test_only_what_is_allowed(self):
        for thing in ((("meet", 1, 0),), (("tell", 0, 1),), (("meet", 0, 1), ("add", 0)),
                      (("meet", 0, 1), ("meet", 0, 2))):
            self.assertIs(is_mended(APART, "long", [(0, 1)], CHAIN, thing), False)
        for allowed in (CHAIN, listed(CHAIN), tuple(CHAIN)):
            self.assertIs(is_mended(APART, "long", [(0, 1)], allowed, (("meet", 0, 1),)), True)

    def test_values_of_every_other_kind(self):
        right = ("meet", 0, 1)
        inner = junk() + [("meet", False, True), ("meet", 0, True), ["meet", 0, 1], ("meet", 0, 1, 2), ("meet", (0, 1)),
                          ("meet", 0, 4), ("meet", -1, 1), ("meet", 0, None), (right,), "meet 0 1", ("meet",)]
        wrong = junk() + [(one,) for one in inner] + [(right, one) for one in inner] + [[right], right, {}, "meet"]
        deep = [nested(depth, right, make) for depth in range(2, 12) for make in (tuple, list)]
        for thing in wrong + deep:
            for kind in KINDS:
                for pairs in ([(0, 1)], []):
                    self.assertIs(is_mended(APART, kind, pairs, CHAIN, thing), False, thing)
        self.assertIs(is_mended(APART, "long", [(0, 1)], CHAIN, nested(1, right, tuple)), True)

    def test_whatever_the_bounds(self):
        thing = tuple([("look", k % 4) for k in range(12)] + [("add", 1)] * 5 + CHAIN * 9)
        allowed = [("look", k) for k in range(4)] + [("add", 1)] + CHAIN
        for kind in KINDS:
            want = not set(all_pairs(APART)) & set(told_hidden(longer(APART, thing), kind))
            self.assertIs(is_mended(APART, kind, all_pairs(APART), allowed, thing), want)


class Reach(unittest.TestCase):

    def told_reach(self, table, kind, i):
        """Who has the look, or one that it leads to, behind the last event."""
        beyond = {i} | {other for one, other in ruled(table, kind)[0] if one == i}
        people = set()
        for look in beyond:
            place, person = look_list(table)[look]
            hearers = {person}
            for word, *who in table[1][place:] if kind == "long" else ():
                if word in ("meet", "tell") and who[0] in hearers:
                    hearers.add(who[1])
                if word == "meet" and who[1] in hearers:
                    hearers.add(who[0])
            people |= hearers
        return sorted(people)

    def test_against_leads_and_who_has_heard_what(self):
        sizes = set()
        for _, table, _ in random_cases(88, 300):
            for kind in KINDS:
                for i in range(len(look_list(table))):
                    got = reach(table, kind, i)
                    self.assertEqual(got, self.told_reach(table, kind, i), (table, kind, i))
                    sizes.add(len(got))
        self.assertGreaterEqual(sizes, {1, 2, 3, 4})

    def test_against_the_stories(self):
        """In each unseen story it leads to others; those who have none of them can know nothing of it."""
        for table in small_tables(89, 80):
            many = len(look_list(table))
            for kind in KINDS:
                same = {pair for pair in itertools.permutations(range(many), 2)}
                for story in unseen_stories(table, kind):
                    same = {(i, j) for i, j in same if starts(story[i], story[j])}
                self.assertEqual(sorted(same), leads(table, kind), (table, kind))

    def test_nobody_else_is_reached(self):
        for kind in KINDS:
            for i in range(4):
                self.assertEqual(reach(APART, kind, i), [i])
            self.assertEqual(reach((1, (("look", 0), ("look", 0))), kind, 0), [0])
        self.assertEqual(reach(longer(APART, CHAIN), "short", 0), [0])
        self.assertEqual(reach(FAR, "long", 0), [0])

    def test_meetings_ahead_of_the_look_and_ways_of_tells(self):
        table = (3, (("meet", 0, 1), ("look", 0), ("tell", 2, 0), ("tell", 0, 1)))
        self.assertEqual((reach(table, "long", 0), reach(table, "short", 0)), ([0, 1], [0]))
        self.assertEqual(reach(longer(APART, CHAIN), "long", 0), [0, 1, 2, 3])
        self.assertEqual(reach(longer(APART, reversed(CHAIN)), "long", 0), [0, 1])

    def test_by_an_own_add(self):
        for kind, want in (("long", [0, 1, 2]), ("short", [0, 1])):
            self.assertEqual(reach(behind(FAR, [("meet", 0, 1)]), kind, 0), want)
        self.assertEqual(first_rules(behind(FAR, [("meet", 0, 1)]), "long")[0], set())
        self.assertEqual(reach(DRAWN, "long", 0), [0, 2, 3, 4])

    def test_a_meeting_of_both_reaches_mends(self):
        tried_ones = 0
        for _, table, _ in random_cases(90, 120):
            for kind in KINDS:
                for i, j in all_pairs(table):
                    one, other = reach(table, kind, i), reach(table, kind, j)
                    if set(one) & set(other):
                        self.assertIn((i, j), alikes(table, kind))
                    for p, q in [(p, q) for p in one for q in other if p != q]:
                        for event in (("meet", p, q), ("tell", p, q), ("tell", q, p)):
                            self.assertEqual(unmended(table, kind, [(i, j)], [event]), [], (table, kind, i, j))
                            tried_ones += 1
        self.assertGreater(tried_ones, 1000)


class FirstUnlike(unittest.TestCase):

    def test_against_what_both_hide(self):
        said = [0, 0]
        dice = chance(91)
        for _, table, _ in random_cases(92, 200):
            other = dice.choice([random_table(dice, 4, dice.randrange(1, 6), 1, 3),
                                 longer(table, some_events(dice, table[0], 1)), (table[0], table[1][1:])])
            for kind in KINDS:
                apart = set(told_hidden(table, kind)) ^ set(told_hidden(other, kind))
                want = min(apart) if apart else None
                said[want is None] += 1
                self.assertEqual(first_unlike(table, other, kind), want, (table, other, kind))
                self.assertEqual(first_unlike(other, table, kind), want, (table, other, kind))
        self.assertGreater(min(said), 50)

    def test_the_same_and_others_of_which_both_hide_the_same(self):
        for kind in KINDS:
            self.assertIsNone(first_unlike(FAR, FAR, kind))
            self.assertIsNone(first_unlike(FAR, listed(FAR), kind))
            self.assertIsNone(first_unlike((1, ()), (6, ()), kind))
            self.assertIsNone(first_unlike((1, ()), (6, (("look", 3), ("meet", 1, 2))), kind))
            self.assertIsNone(first_unlike(APART, (9, APART[1] + (("add", 8),)), kind))

    def test_fewer_looks(self):
        two, three = (4, APART[1][:2]), (4, APART[1][:3])
        for kind in KINDS:
            for one, other, want in ((two, APART, (0, 2)), (three, APART, (0, 3)), ((4, ()), APART, (0, 1)),
                                     (TWICE, two, (0, 1)), (TWICE, (2, ()), None)):
                self.assertEqual(first_unlike(one, other, kind), want)
                self.assertEqual(first_unlike(other, one, kind), want)

    def test_the_kind_counts(self):
        one, other = longer(APART, CHAIN), longer(APART, reversed(CHAIN))
        self.assertIsNone(first_unlike(one, other, "short"))
        self.assertIsNone(first_unlike(longer(APART, CHAIN[:2]), longer(APART, [CHAIN[1], CHAIN[0]]), "long"))
        self.assertEqual(first_unlike(longer(APART, CHAIN[:2]), longer(APART, CHAIN), "long"), (0, 3))
        self.assertEqual(first_unlike(longer(APART, CHAIN[:2]), longer(APART, CHAIN), "short"), (2, 3))


class NoLooks(unittest.TestCase):

    def call(self, function, table, pairs):
        last = {unmended: [CHAIN], unmended_story: [CHAIN], mend: [CHAIN], is_mended: [CHAIN, ("meet", 0, 1)]}
        return function, table, "long", pairs, *last[function]

    def test_the_first_number_that_is_none(self):
        for function in WITH_PAIRS:
            for pairs, number in (([(0, 4)], 4), ([(-1, 4)], -1), ([(4, 5)], 4), ([(0, 1), (2, 9), (7, 8)], 9),
                                  ([(0, 1), (0, 1), (-2, -1)], -2), (((0, 10 ** 30),), 10 ** 30), ([[0, 3], [1, 6]], 6),
                                  ([(9, 0)], 9)):
                check_error(self, NoLook, number, *self.call(function, APART, pairs))
            check_error(self, NoLook, 0, *self.call(function, (4, ()), [(0, 1)]))
            check_error(self, NoLook, 1, *self.call(function, (4, (("look", 2),)), [(0, 1)]))

    def test_ahead_of_what_is_no_such_tuple(self):
        for thing in (None, [], ("x",), ()):
            check_error(self, NoLook, 4, is_mended, APART, "short", [(0, 4)], [], thing)

    def test_of_reach(self):
        for i in (4, -1, 10 ** 20):
            for kind in KINDS:
                check_error(self, NoLook, i, reach, APART, kind, i)
        check_error(self, NoLook, 0, reach, (3, ()), "long", 0)

    def test_nothing_is_changed_by_a_call_that_raises(self):
        table, pairs, allowed = listed(APART), [[0, 1], [2, 9]], listed(CHAIN)
        before = copy.deepcopy((table, pairs, allowed))
        for function in WITH_PAIRS:
            with self.assertRaises(NoLook):
                function(table, "long", pairs, allowed, *[()] if function is is_mended else [])
        self.assertEqual((table, pairs, allowed), before)


class Bounds(unittest.TestCase):

    def tables(self):
        """12 events with 6 looks and as many meets and tells as there may be, and with fewer."""
        dice = chance(93)
        yield 6, tuple([("look", k) for k in range(6)] + [("meet", k, k + 1) for k in range(5)] + [("add", 0)])
        for looks, adds in ((6, 0), (6, 3), (6, 6), (5, 2), (4, 0)):
            yield random_table(dice, 6, looks, adds, 12 - looks - adds)

    def test_mend_with_four_allowed(self):
        dice = chance(94)
        for table in self.tables():
            self.assertEqual(len(table[1]), 12)
            for allowed in ([("meet", 0, 5), ("tell", 2, 4), ("look", 1), ("add", 3)],
                            [("meet", 0, 1), ("meet", 2, 3), ("meet", 4, 5), ("meet", 1, 4)], some_events(dice, 6, 4)):
                for kind in KINDS:
                    for pairs in (all_pairs(table), all_pairs(table)[:3], [(0, 3)]):
                        row = mend(table, kind, pairs, allowed)
                        want = [one for one in rows(allowed, 1) if is_mended(table, kind, pairs, allowed, one)]
                        self.assertEqual([row] if row is not None and len(row) < 2 else [], want[:1])

    def test_six_further_events(self):
        """With these 16 events, 8 looks, 11 meets and tells at most."""
        dice = chance(95)
        for ahead, further in (((6, 0, 4), (2, 0, 4)), ((6, 2, 2), (2, 2, 2)), ((5, 1, 5), (3, 0, 2)),
                               ((4, 0, 8), (1, 0, 3)), ((6, 0, 6), (0, 0, 4)), ((2, 3, 5), (0, 0, 6)),
                               ((6, 1, 3), (0, 6, 0))):
            table = random_table(dice, 6, *ahead)
            events = random_table(dice, 6, *further)[1]
            self.assertLessEqual((len(table[1]), len(events), len(table[1] + events)), (12, 6, 16))
            for kind in KINDS:
                left = unmended(table, kind, all_pairs(table), events)
                want = sorted(set(all_pairs(table)) & set(told_hidden(longer(table, events), kind)))
                self.assertEqual(left, want, (table, kind, events))
                story = unmended_story(table, kind, all_pairs(table), events)
                self.assertEqual(story is None, not left)
                self.assertTrue(story is None or unlike(story[left[0][0]], story[left[0][1]]))
                self.assertIs(is_mended(table, kind, all_pairs(table), events, events), not left)

    def test_reach_and_first_unlike_of_large_ones(self):
        tables = list(large_tables(96, 6)) + [LINE, DRAWN, HEARD, TABLE]
        for table, other in zip(tables, tables[1:]):
            for kind in KINDS:
                apart = set(hidden_pairs(table, kind)) ^ set(hidden_pairs(other, kind))
                self.assertEqual(first_unlike(table, other, kind), min(apart, default=None))
                for i in range(len(look_list(table))):
                    self.assertIn(look_list(table)[i][1], reach(table, kind, i))


if __name__ == "__main__":
    unittest.main()
