"""Point [9]: branches. Guarantee (d) of point [1]."""

import functools
import itertools
import unittest

from hiddenforks.branches import (course, is_knot, knot, least_same, most_branches, most_pairs, spare, story_of,
                                  together)
from hiddenforks.data import is_story
from hiddenforks.errors import NoLook
from hiddenforks.forks import alikes, hidden_pairs
from hiddenforks.hall import is_unseen

from support import (DRAWN, HEARD, KINDS, LINE, TABLE, TWICE, chance, check_error, it_hides, junk, large_tables,
                     listed, look_list, meeting_list, middle_tables, nested, own_add_between, pairs_left, random_table,
                     ruled, small_tables, subsets, told_hidden, unlike, walks)


def all_pairs(table):
    return list(itertools.combinations(range(len(look_list(table))), 2))


@functools.lru_cache(maxsize=None)
def tried_cases():
    """Small timetables, and the sets of pairs that are unlike in one of their unseen stories."""
    dice, found = chance(41), []
    for looks, adds, many in ((1, 1, 2), (2, 2, 14), (3, 1, 40), (3, 2, 1), (4, 0, 12)):
        for _ in range(many):
            table = random_table(dice, dice.randrange(1, 5), looks, dice.randrange(adds + 1), dice.randrange(6))
            for kind in KINDS:
                sets = {unlike_pairs(story) for story, _ in walks(table, kind, (1000, 1001, 1002), once=True)}
                found.append((table, kind, sets))
    return found


def unlike_pairs(story):
    return frozenset((i, j) for i, j in itertools.combinations(range(len(story)), 2) if unlike(story[i], story[j]))


def some_wishes(dice, pairs, most=3):
    """Two lists of these pairs of looks, in any order."""
    return [[dice.choice([(i, j), (j, i)]) for i, j in dice.sample(pairs, dice.randrange(min(most, len(pairs)) + 1))]
            for _ in range(2)]


def told_knot(table, kind, pairs, alike, looks):
    """Whether these looks, two or more, are a knot by the words of the document."""
    lead, same = ruled(table, kind, alike)
    near = {frozenset(pair) for pair in same}
    reached, before = {looks[0]}, set()
    while reached != before:
        before = set(reached)
        reached |= {b for a in before for b in looks if frozenset((a, b)) in near}
    wished = {frozenset(pair) for pair in pairs}
    return reached == set(looks) and all(
        any(frozenset((one, other)) in wished or (one, other) in lead or one < other and own_add_between(table, one, other)
            for one in looks if one != other) for other in looks)


class Tried(unittest.TestCase):
    """Against the stories of small timetables, all of them."""

    def test_most_branches(self):
        several = set()
        for table, kind, sets in tried_cases():
            looks = range(len(look_list(table)))
            apart = [some for some in subsets(looks) if any(set(itertools.combinations(some, 2)) <= one for one in sets)]
            most = max(map(len, apart))
            want = [some for some in apart if len(some) == most][0]
            self.assertEqual(most_branches(table, kind), want, (table, kind))
            several.add(most)
        self.assertLessEqual({1, 2, 3}, several)

    def test_most_pairs(self):
        several = set()
        for table, kind, sets in tried_cases():
            most = max(map(len, sets))
            want = min(tuple(sorted(one)) for one in sets if len(one) == most)
            self.assertEqual(most_pairs(table, kind), want, (table, kind))
            several.add(most)
            self.assertLessEqual(set(want), set(hidden_pairs(table, kind)))
        self.assertGreater(len(several), 4)

    def test_wishes(self):
        dice, said = chance(42), [0, 0]
        for table, kind, sets in tried_cases():
            for _ in range(12):
                pairs, alike = some_wishes(dice, all_pairs(table))
                unlike_ones = {tuple(sorted(pair)) for pair in pairs}
                alike_ones = {tuple(sorted(pair)) for pair in alike}
                want = any(unlike_ones <= one and not alike_ones & one for one in sets)
                said[want] += 1
                self.assertIs(together(table, kind, pairs, alike), want, (table, kind, pairs, alike))
                self.assertEqual(knot(table, kind, pairs, alike) is None, want, (table, kind, pairs, alike))
                self.check_story(table, kind, pairs, alike, want)
        self.assertGreater(min(said), 200)

    def check_story(self, table, kind, pairs, alike, want):
        story = story_of(table, kind, pairs, alike)
        self.assertEqual(story is not None, want, (table, kind, pairs, alike))
        if story is not None:
            self.assertTrue(is_story(table, story) and is_unseen(table, kind, story), (table, kind, story))
            self.assertTrue(all(unlike(story[i], story[j]) for i, j in pairs))
            self.assertFalse(any(unlike(story[i], story[j]) for i, j in alike))

    def test_without_alike(self):
        dice = chance(43)
        for table, kind, sets in tried_cases():
            pairs, _ = some_wishes(dice, all_pairs(table))
            want = any({tuple(sorted(pair)) for pair in pairs} <= one for one in sets)
            for given in ((pairs,), (pairs, ()), (pairs, [])):
                self.assertIs(together(table, kind, *given), want)
                self.assertEqual(story_of(table, kind, *given) is not None, want)
                self.assertEqual(knot(table, kind, *given) is None, want)


class Knots(unittest.TestCase):

    def test_the_fewest_and_the_least(self):
        dice, sizes = chance(44), set()
        for table in itertools.chain(small_tables(45, 40), middle_tables(46, 90)):
            for kind in KINDS:
                pairs, alike = some_wishes(dice, dice.choice([all_pairs(table), told_hidden(table, kind)]))
                looks = range(len(look_list(table)))
                want = [some for some in subsets(looks) if len(some) > 1 and told_knot(table, kind, pairs, alike, some)]
                got = knot(table, kind, pairs, alike)
                self.assertEqual(got, want[0] if want else None, (table, kind, pairs, alike))
                sizes.add(len(got or ()))
                for some in subsets(looks):
                    self.assertIs(is_knot(table, kind, pairs, alike, some), some in want, (table, kind, pairs, alike, some))
                self.assertEqual(together(table, kind, pairs, alike), not want)
        self.assertLessEqual({0, 2, 4}, sizes)

    def test_exactly_if_there_is_none(self):
        dice, said = chance(47), [0, 0]
        for table in itertools.chain(middle_tables(48, 240), large_tables(49, 20)):
            for kind in KINDS:
                free = told_hidden(table, kind)
                pairs = dice.sample(free, min(len(free), dice.randrange(1, 5)))
                alike = dice.sample(all_pairs(table), dice.randrange(2))
                story, found = story_of(table, kind, pairs, alike), knot(table, kind, pairs, alike)
                self.assertEqual(story is None, found is not None, (table, kind, pairs, alike))
                said[story is None] += 1
                if story is None:
                    self.assertTrue(told_knot(table, kind, pairs, alike, found), (table, kind, pairs, alike, found))
                    self.assertIs(is_knot(table, kind, pairs, alike, found), True)
                else:
                    self.assertTrue(is_unseen(table, kind, story))
                    self.assertTrue(all(unlike(story[i], story[j]) for i, j in pairs))
                    self.assertFalse(any(unlike(story[i], story[j]) for i, j in alike))
        self.assertGreater(min(said), 30)

    def test_a_pair_wished_both_ways_is_a_knot(self):
        for kind in KINDS:
            for pair in ((0, 1), (1, 0)):
                self.assertEqual(knot(HEARD, kind, [(0, 1)], [pair]), (0, 1))
                self.assertIs(together(HEARD, kind, [pair], [(0, 1)]), False)
        self.assertEqual(knot(TWICE, "long", [(1, 0)]), (0, 1))

    def test_each_pair_alone_but_not_both(self):
        for wishes in ([(0, 4)], [(3, 4)]):
            self.assertIs(together(LINE, "short", wishes), True)
            self.assertIsNone(knot(LINE, "short", wishes))
        self.assertIs(is_knot(LINE, "short", [(0, 4), (3, 4)], [], (0, 1, 2, 3, 4)), True)
        self.assertIs(is_knot(LINE, "short", [(0, 4)], [], (0, 1, 2, 3, 4)), False)
        self.assertIs(is_knot(LINE, "short", [(0, 4)], [(0, 1), (1, 4)], (0, 1, 4)), True)

    def test_things_that_are_no_knot(self):
        pairs = [(0, 4), (3, 4)]
        for thing in ((0, 1, 2, 3), (1, 2, 3, 4), (0, 1, 2, 3, 4, 4), (0, 1, 2, 4, 3), (4, 3, 2, 1, 0), [0, 1, 2, 3, 4], (),
                      (0,), (4,), (False, 1, 2, 3, 4), (0, True, 2, 3, 4), (0, 1, 2, 3, 4, 5), (-1, 0, 1, 2, 3, 4), None,
                      (0, 1, 2, 3, "4"), ((0, 1, 2, 3, 4),), (0, 1, 2, 3, (4,)), (0, 1, 2, 3, None), 4, "01234"):
            self.assertIs(is_knot(LINE, "short", pairs, (), thing), False, thing)
        for thing in junk() + [nested(12, 1, tuple), nested(11, (0, 1), tuple), nested(11, (0, 1), list)]:
            self.assertIs(is_knot(LINE, "short", pairs, (), thing), False, thing)
            self.assertIs(is_knot((1, ()), "long", [], [], thing), False, thing)
        self.assertIs(is_knot(TWICE, "long", [(0, 1)], (), (0, 1)), True)
        self.assertIs(is_knot(TWICE, "long", [(0, 1)], (), (False, True)), False)

    def test_no_wishes(self):
        for table in (TABLE, DRAWN, LINE, (1, ()), (2, (("add", 0), ("meet", 0, 1)))):
            for kind in KINDS:
                self.assertIs(together(table, kind, []), True)
                self.assertIsNone(knot(table, kind, [], []))
                self.assertTrue(is_unseen(table, kind, story_of(table, kind, (), ())))

    def test_all_alike(self):
        for table in (TABLE, DRAWN, LINE):
            for kind in KINDS:
                story = story_of(table, kind, [], all_pairs(table))
                self.assertTrue(is_unseen(table, kind, story))
                self.assertEqual(unlike_pairs(story), frozenset())

    def test_what_is_alike_already_may_be_wished(self):
        for table in middle_tables(50, 30):
            for kind in KINDS:
                same = alikes(table, kind)
                for pair in told_hidden(table, kind):
                    self.assertIs(together(table, kind, [pair], same), True)
                for pair in same:
                    self.assertIs(together(table, kind, [pair]), False)


class Errors(unittest.TestCase):

    def test_pairs_and_then_alike(self):
        for function in (together, story_of, knot):
            for wrong in (-1, 3, 10 ** 9):
                check_error(self, NoLook, wrong, function, TABLE, "long", [(0, 1), (wrong, 99)], [(77, 0)])
                check_error(self, NoLook, wrong, function, TABLE, "long", [(0, 1), (2, wrong), (50, 51)], [(77, 0)])
                check_error(self, NoLook, wrong, function, TABLE, "short", [(0, 1)], [(0, 2), (2, wrong), (40, 41)])
                check_error(self, NoLook, wrong, function, TABLE, "short", [(wrong, 0)])
        check_error(self, NoLook, 3, is_knot, TABLE, "long", [(0, 1), (3, 99)], [(77, 0)], None)
        check_error(self, NoLook, 77, is_knot, TABLE, "long", [(0, 1)], [(77, -5)], (0, 1))


class Meetings(unittest.TestCase):

    def test_the_course(self):
        for table in itertools.chain((TABLE, DRAWN, LINE, (1, ())), small_tables(51, 30), middle_tables(52, 12)):
            for kind in KINDS:
                want = [len(most_branches((table[0], table[1][:many]), kind)) for many in range(1, len(table[1]) + 1)]
                self.assertEqual(course(table, kind), want)
        self.assertEqual(course(TABLE, "long"), [1, 2, 2, 2, 2, 1])
        self.assertEqual(course((2, (("add", 0), ("meet", 0, 1), ("look", 1))), "long"), [0, 0, 1])

    def test_branches_by_trying_all_sets_of_looks(self):
        for table in itertools.chain(middle_tables(53, 60), large_tables(54, 6)):
            for kind in KINDS:
                free = set(told_hidden(table, kind))
                apart = [some for some in subsets(range(len(look_list(table))))
                         if set(itertools.combinations(some, 2)) <= free]
                most = max(map(len, apart))
                got = most_branches(table, kind)
                self.assertEqual(got, [some for some in apart if len(some) == most][0])
                self.assertIs(together(table, kind, list(itertools.combinations(got, 2))), True)

    def test_pairs_by_trying_all_sets_of_pairs(self):
        several = set()
        for table in middle_tables(55, 45):
            free = {kind: told_hidden(table, kind) for kind in KINDS}
            for kind in KINDS:
                got = most_pairs(table, kind)
                several.add(len(free[kind]) - len(got))
                self.assertIs(together(table, kind, list(got)), True)
                if len(free[kind]) <= 8:
                    able = [some for some in subsets(free[kind]) if together(table, kind, list(some))]
                    self.assertEqual(got, [some for some in able if len(some) == len(able[-1])][0], (table, kind))
        self.assertLessEqual({0, 1, 2}, several)

    def test_the_middle_of_a_star_may_not_begin_it(self):
        # Look 2 shows what was added behind look 0, so it cannot begin all, though this would leave more pairs apart.
        star = (6, (("look", 0), ("add", 2), ("look", 1), ("look", 2), ("look", 3), ("look", 4), ("look", 5), ("meet", 0, 1),
                    ("meet", 1, 2), ("meet", 2, 3), ("meet", 2, 4), ("meet", 2, 5)))
        self.assertEqual(most_pairs(star, "short"), ((0, 2), (0, 3), (0, 4), (0, 5), (3, 4), (3, 5), (4, 5)))
        free = (6, star[1][:1] + star[1][2:])
        self.assertEqual(len(most_pairs(free, "short")), 9)

    def test_spare_and_least_same_by_trying_all_sets(self):
        spared, sizes = 0, set()
        for table in itertools.chain((TABLE, DRAWN, LINE, TWICE, HEARD), small_tables(56, 60), middle_tables(57, 40)):
            places = meeting_list(table)
            for kind in KINDS:
                before = pairs_left(table, kind, (), ())
                want = [place for place in places if pairs_left(table, kind, (), (place,)) == before]
                self.assertEqual(spare(table, kind), want, (table, kind))
                spared += len(want)
                same = [kept for kept in subsets(places) if pairs_left(
                    table, kind, (), tuple(place for place in places if place not in kept)) == before]
                self.assertEqual(least_same(table, kind), same[0], (table, kind))
                sizes.add(len(same[0]))
        self.assertGreater(spared, 50)
        self.assertLessEqual({0, 1, 2, 3}, sizes)

    def test_one_of_two_can_be_spared_but_not_both(self):
        self.assertEqual((spare(TWICE, "long"), least_same(TWICE, "long")), ([2, 3], (2,)))
        self.assertTrue(it_hides(TWICE, "long", 0, 1, (), (2, 3)))

    def test_without_looks_and_without_meetings(self):
        for kind in KINDS:
            self.assertEqual((most_branches((2, ()), kind), course((2, ()), kind), most_pairs((2, ()), kind)), ((), [], ()))
            self.assertEqual((spare((2, ()), kind), least_same((2, ()), kind)), ([], ()))
            one = (1, (("look", 0),))
            self.assertEqual((most_branches(one, kind), course(one, kind), most_pairs(one, kind)), ((0,), [1], ()))
            apart = (3, (("look", 0), ("look", 1), ("look", 2)))
            self.assertEqual((most_branches(apart, kind), most_pairs(apart, kind)), ((0, 1, 2), ((0, 1), (0, 2), (1, 2))))


class Bounds(unittest.TestCase):

    def test_at_the_bounds(self):
        dice = chance(58)
        for table in large_tables(59, 4):
            for kind in KINDS:
                branches, pairs, kept = most_branches(table, kind), most_pairs(table, kind), least_same(table, kind)
                self.assertEqual(course(table, kind)[-1], len(branches))
                self.assertGreaterEqual(len(pairs), len(branches) * (len(branches) - 1) // 2)
                self.assertEqual(unlike_pairs(story_of(table, kind, listed(pairs))), frozenset(pairs))
                others = tuple(place for place in meeting_list(table) if place not in kept)
                self.assertEqual(pairs_left(table, kind, (), others), frozenset(told_hidden(table, kind)))
                self.assertLessEqual(set(meeting_list(table)) - set(spare(table, kind)), set(kept))
                wishes = dice.sample(all_pairs(table), 3)
                self.assertEqual(together(table, kind, wishes), knot(table, kind, wishes) is None)

    def test_somewhat_beyond(self):
        table = (9, tuple(("look", p) for p in range(9)) + tuple(("meet", p, p + 1) for p in range(8)))
        self.assertEqual(most_branches(table, "short"), (0, 2, 4, 6, 8))
        self.assertEqual(least_same(table, "short"), tuple(range(9, 17)))
        self.assertEqual(most_pairs(table, "long"), ())
        self.assertEqual(len(most_pairs(table, "short")), 36 - 8 - 2 * (3 + 1))


if __name__ == "__main__":
    unittest.main()
