"""Point [7]: liars and lost meetings. Guarantee (b) of point [1]."""

import itertools
import unittest

from hiddenforks.data import is_timetable
from hiddenforks.errors import NoLook, NoMeeting, NoPerson
from hiddenforks.faults import (circles, faults, fragile, frontier, least_liars, least_lost, look_left, lost_paper, nets,
                                remaining, shows_least)
from hiddenforks.forks import hidden, hidden_pairs

from support import (DRAWN, HEARD, KINDS, LINE, TABLE, TWICE, chance, check_error, it_hides, junk, left_over, listed,
                     look_list, meeting_list, nested, random_table, small_tables, subsets, told_hidden, tried_hidden)

TOLD = (nets, circles, least_lost, least_liars, lost_paper, frontier)
# Three nets, each two of which have a place in common, but no place is in all: two lost will do, and one will not.
THREE = (5, (("look", 3), ("look", 1), ("look", 4), ("meet", 3, 0), ("meet", 1, 2), ("meet", 0, 1), ("tell", 0, 4),
             ("add", 3), ("look", 1), ("look", 4), ("look", 2), ("tell", 4, 3), ("meet", 4, 2)))
RING = (4, (("look", 0), ("look", 1), ("look", 2), ("look", 3), ("meet", 0, 1), ("meet", 1, 2), ("meet", 2, 3),
            ("meet", 3, 0), ("meet", 0, 1), ("meet", 2, 3)))


def fault_tables(seed, many):
    dice = chance(seed)
    yield from (TABLE, DRAWN, HEARD, TWICE, RING, THREE)
    for _ in range(many):
        people, meetings = dice.randrange(2, 6), dice.randrange(1, 6)
        yield random_table(dice, people, dice.randrange(2, 5), dice.randrange(3), meetings)


def look_pairs(table):
    return itertools.permutations(range(len(look_list(table))), 2)


def cases(seed, many):
    for table in fault_tables(seed, many):
        for kind in KINDS:
            for i, j in look_pairs(table):
                yield table, kind, i, j


def others_of(table, i, j):
    own = [look_list(table)[look][1] for look in (i, j)]
    return [person for person in range(table[0]) if person not in own]


def but(members, some):
    return [member for member in members if member not in some]


def told_nets(table, kind, i, j):
    """By the words of the document: enough, but not if one of these is lost, too."""
    places = meeting_list(table)
    return [kept for kept in subsets(places) if not it_hides(table, kind, i, j, (), but(places, kept))
            and all(it_hides(table, kind, i, j, (), but(places, kept) + [one]) for one in kept)]


def told_circles(table, kind, i, j):
    others = others_of(table, i, j)
    return [kept for kept in subsets(others) if not it_hides(table, kind, i, j, but(others, kept), ())
            and all(it_hides(table, kind, i, j, but(others, kept) + [one], ()) for one in kept)]


def missed_by(found, places, size):
    """Whether no set with fewer than so many places has a member of each."""
    smaller = [set(some) for some in subsets(places) if len(some) < size]
    return not any(all(some & set(net) for net in found) for some in smaller)


class Remaining(unittest.TestCase):

    def test_what_stays(self):
        self.assertEqual(remaining(TABLE, [], []), TABLE)
        self.assertEqual(remaining(TABLE, [], [2]), (3, TABLE[1][:2] + TABLE[1][3:]))
        self.assertEqual(remaining(TABLE, [0], []), (3, (("look", 1), ("add", 2), ("look", 2), ("meet", 1, 2))))
        self.assertEqual(remaining(TABLE, [2], []), (3, (("look", 0), ("look", 1), ("add", 2))))
        self.assertEqual(remaining(TABLE, [0, 1, 2], [2, 5]), (3, (("add", 2),)))
        self.assertEqual(remaining(HEARD, [2], []), (4, (("look", 0), ("look", 1))))
        self.assertEqual(remaining(HEARD, [3], [2]), (4, (("look", 0), ("look", 1), ("tell", 1, 2))))
        self.assertEqual(remaining((1, ()), [0], []), (1, ()))

    def test_a_number_may_come_twice(self):
        self.assertEqual(remaining(TABLE, [0, 0], [5, 2, 5]), remaining(TABLE, [0], [2, 5]))
        self.assertEqual(look_left(TABLE, [0, 0], 2), 1)

    def test_a_meeting_of_a_liar_may_be_lost_too(self):
        self.assertEqual(remaining(TABLE, [0], [2]), remaining(TABLE, [0], []))

    def test_it_is_a_timetable_of_tuples(self):
        for table in fault_tables(1, 40):
            for liars in subsets(range(table[0])):
                for lost in subsets(meeting_list(table))[:6]:
                    want = left_over(table, liars, lost)[0]
                    self.assertEqual(repr(remaining(table, list(liars), list(lost))), repr(want))
                    self.assertIs(is_timetable(remaining(listed(table), liars, lost)), True)

    def test_the_numbers_of_looks(self):
        self.assertEqual([look_left(TABLE, [], look) for look in range(3)], [0, 1, 2])
        self.assertEqual([look_left(TABLE, [0], look) for look in (1, 2)], [0, 1])
        self.assertEqual(look_left(TABLE, [1], 2), 1)
        for table in fault_tables(2, 40):
            for liars in subsets(range(table[0])):
                numbers = left_over(table, liars, ())[1]
                for look in range(len(look_list(table))):
                    if look in numbers:
                        self.assertEqual(look_left(table, list(liars), look), numbers[look])
                    else:
                        with self.assertRaises(NoLook) as caught:
                            look_left(table, liars, look)
                        self.assertEqual(caught.exception.number, look)


class Errors(unittest.TestCase):

    def test_remaining(self):
        check_error(self, NoPerson, 3, remaining, TABLE, [0, 3, 9], [0])
        check_error(self, NoPerson, -1, remaining, TABLE, [-1], [99])
        for place in (0, 3, 4, 6, -1, 100):
            check_error(self, NoMeeting, place, remaining, TABLE, [0], [2, place, 77])
        check_error(self, NoMeeting, 3, remaining, TABLE, [], [3])
        check_error(self, NoMeeting, 0, remaining, (1, ()), [], [0])

    def test_look_left(self):
        check_error(self, NoPerson, 3, look_left, TABLE, [1, 3], 9)
        for look in (-1, 3, 1000):
            check_error(self, NoLook, look, look_left, TABLE, [1], look)
        check_error(self, NoLook, 1, look_left, TABLE, [0, 1], 1)
        check_error(self, NoLook, 2, look_left, TABLE, [2], 2)

    def test_the_two_looks(self):
        for function in TOLD:
            for i, j, wrong in ((3, 0, 3), (0, 3, 3), (-1, 9, -1), (9, -1, 9), (2, -1, -1), (10 ** 20, 0, 10 ** 20)):
                check_error(self, NoLook, wrong, function, TABLE, "long", i, j)
                check_error(self, NoLook, wrong, faults, TABLE, "short", i, j, 1)
                check_error(self, NoLook, wrong, shows_least, TABLE, "short", i, j, [0], ())

    def test_shows_least(self):
        for place in (0, 3, 6, -1):
            check_error(self, NoMeeting, place, shows_least, TABLE, "long", 0, 1, [5, place, 99], None)
        check_error(self, NoLook, 7, shows_least, TABLE, "long", 0, 7, [0], ())


class Sets(unittest.TestCase):

    def test_by_trying_all_sets_of_meets_and_tells(self):
        longest = 0
        for table, kind, i, j in cases(3, 45):
            want = told_nets(table, kind, i, j)
            self.assertEqual(nets(table, kind, i, j), want, (table, kind, i, j))
            places = meeting_list(table)
            hiding = [lost for lost in subsets(places) if it_hides(table, kind, i, j, (), lost)]
            self.assertEqual(least_lost(table, kind, i, j), hiding[0] if hiding else None, (table, kind, i, j))
            self.assertEqual(hiding, [lost for lost in subsets(places) if all(set(lost) & set(net) for net in want)])
            longest = max(longest, len(want))
        self.assertGreater(longest, 3)

    def test_by_trying_all_sets_of_people(self):
        some = 0
        for table, kind, i, j in cases(4, 60):
            want = told_circles(table, kind, i, j)
            self.assertEqual(circles(table, kind, i, j), want, (table, kind, i, j))
            others = others_of(table, i, j)
            hiding = [liars for liars in subsets(others) if it_hides(table, kind, i, j, liars, ())]
            self.assertEqual(least_liars(table, kind, i, j), hiding[0] if hiding else None, (table, kind, i, j))
            self.assertEqual(hiding, [liars for liars in subsets(others) if all(set(liars) & set(one) for one in want)])
            some += want not in ([], [()])
        self.assertGreater(some, 20)

    def test_by_what_is_left_and_by_stories(self):
        for table in small_tables(5, 60):
            places = meeting_list(table)
            for kind in KINDS:
                for i, j in itertools.combinations(range(len(look_list(table))), 2):
                    lost = least_lost(table, kind, i, j)
                    everything = remaining(table, [], places)
                    self.assertEqual(lost is None, not hidden(everything, kind, i, j))
                    if lost is not None:
                        self.assertIn((i, j), tried_hidden(remaining(table, [], lost), kind))
                        for fewer in subsets(places):
                            if len(fewer) == len(lost) - 1:
                                self.assertNotIn((i, j), tried_hidden(remaining(table, [], fewer), kind))

    def test_two_looks_of_one_person(self):
        table = (3, (("look", 0), ("look", 1), ("look", 0), ("meet", 0, 1), ("meet", 1, 2)))
        for kind in KINDS:
            for i, j in ((0, 2), (2, 0)):
                self.assertEqual((nets(table, kind, i, j), circles(table, kind, i, j)), ([()], [()]))
                self.assertEqual((least_lost(table, kind, i, j), least_liars(table, kind, i, j)), (None, None))
                self.assertEqual((lost_paper(table, kind, i, j), frontier(table, kind, i, j)), (None, []))
                self.assertIsNone(faults(table, kind, i, j, 3))
                self.assertIs(shows_least(table, kind, i, j, [3, 4], ((),)), False)

    def test_looks_that_are_hidden_already(self):
        for kind, i, j in (("short", 0, 1), ("short", 2, 0)):
            self.assertEqual((nets(TABLE, kind, i, j), circles(TABLE, kind, i, j)), ([], []))
            self.assertEqual((least_lost(TABLE, kind, i, j), least_liars(TABLE, kind, i, j)), ((), ()))
            self.assertEqual((lost_paper(TABLE, kind, i, j), frontier(TABLE, kind, i, j)), ((), [(0, 0)]))
            self.assertEqual(faults(TABLE, kind, i, j, 0), ((), ()))
            self.assertIs(shows_least(TABLE, kind, i, j, [], ()), True)
            self.assertIs(shows_least(TABLE, kind, i, j, [2], ()), False)
            self.assertIs(shows_least(TABLE, kind, i, j, [], ((5,),)), False)

    def test_no_meets_and_tells(self):
        table = (2, (("look", 0), ("look", 1), ("add", 1), ("look", 1)))
        for kind in KINDS:
            self.assertEqual((nets(table, kind, 0, 2), circles(table, kind, 1, 2)), ([], [()]))
            self.assertEqual((least_lost(table, kind, 0, 1), least_liars(table, kind, 1, 2)), ((), None))
            self.assertEqual([fragile(table, kind, many) for many in (0, 1, 9)], [[(0, 1), (0, 2)]] * 3)

    def test_a_pair_that_only_losses_hide(self):
        self.assertEqual((circles(TWICE, "long", 0, 1), least_liars(TWICE, "long", 1, 0)), ([()], None))
        self.assertEqual((faults(TWICE, "long", 0, 1, 9), frontier(TWICE, "long", 0, 1)), (((), (2, 3)), [(0, 2)]))

    def test_by_length_and_then_ascending(self):
        table = (4, (("look", 0), ("look", 1), ("meet", 0, 2), ("meet", 2, 1), ("meet", 0, 3), ("tell", 3, 1), ("meet", 0, 1)))
        self.assertEqual(nets(table, "long", 0, 1), [(6,), (2, 3), (4, 5)])
        self.assertEqual(lost_paper(table, "long", 1, 0), ((2, 3), (4, 5), (6,)))
        self.assertEqual(least_lost(table, "long", 0, 1), (2, 4, 6))
        self.assertEqual(nets(RING, "long", 0, 2)[0], (4, 5))
        self.assertEqual(circles(RING, "long", 0, 2), [(1,), (3,)])


class Papers(unittest.TestCase):

    def test_as_few_nets_as_can_be_and_the_least_of_them(self):
        sizes = set()
        for table, kind, i, j in cases(6, 40):
            found, lost = told_nets(table, kind, i, j), least_lost(table, kind, i, j)
            got = lost_paper(table, kind, i, j)
            self.assertEqual(got is None, lost is None)
            if lost is None:
                continue
            places = meeting_list(table)
            for some in subsets(found):
                if missed_by(some, places, len(lost)):
                    self.assertEqual(got, some, (table, kind, i, j))
                    break
            sizes.add((len(lost), len(got)))
            self.assertIs(shows_least(table, kind, i, j, list(lost), got), True)
            self.assertIs(shows_least(table, kind, i, j, lost[::-1], got), True)
        self.assertGreater(len(sizes), 4)
        self.assertTrue([one for one in sizes if one[1] > one[0]])

    def test_what_shows_it_and_what_does_not(self):
        said, dice = [0, 0], chance(11)
        for table, kind, i, j in cases(7, 12):
            found, places = told_nets(table, kind, i, j), meeting_list(table)
            things = subsets(found)[:8] + [tuple(found), tuple(reversed(found)), (places,), (tuple(places),), tuple(places)]
            for thing in things:
                for lost in dice.sample(subsets(places), min(3, len(subsets(places)))):
                    is_net = (places,) != thing and list(thing) == sorted(set(thing) & set(found))
                    want = it_hides(table, kind, i, j, (), lost) and is_net and missed_by(thing, places, len(lost))
                    self.assertIs(shows_least(table, kind, i, j, lost, thing), want, (table, kind, i, j, lost, thing))
                    said[want] += 1
        self.assertGreater(min(said), 100)

    def test_more_nets_than_losses(self):
        self.assertEqual(nets(THREE, "long", 0, 1), [(3, 5), (5, 6, 11), (3, 4, 6, 12)])
        self.assertEqual(least_lost(THREE, "long", 0, 1), (3, 5))
        paper = lost_paper(THREE, "long", 0, 1)
        self.assertEqual(paper, ((3, 4, 6, 12), (3, 5), (5, 6, 11)))
        self.assertIs(shows_least(THREE, "long", 0, 1, [5, 3], paper), True)
        for at in range(3):
            self.assertIs(shows_least(THREE, "long", 0, 1, [5, 3], paper[:at] + paper[at + 1:]), False)

    def test_the_documents_words(self):
        self.assertIs(shows_least(TABLE, "long", 0, 1, [2], ((2, 5),)), True)
        for thing in (((2, 5), (2, 5)), ((5, 2),), ([2, 5],), [(2, 5)], [[2, 5]], (2, 5), ((2,),), ((2, 5), ()), (), None,
                      ((2, 5), 2), ((2, 5, 5),), (((2, 5),),), ((2, True),), "nets", (("2", "5"),), ((2, 5), None)):
            self.assertIs(shows_least(TABLE, "long", 0, 1, [2], thing), False, thing)
        for thing in (((2,), (3,)), ):
            self.assertIs(shows_least(TWICE, "short", 0, 1, [3, 2], thing), True)
            self.assertIs(shows_least(TWICE, "short", 0, 1, [3], thing), False)
        for thing in (((3,), (2,)), ((2,),), ((2,), (2,), (3,)), ((2,), (3,), (3,)), ((2,), [3]), ((2,), (3, ))[::-1]):
            self.assertIs(shows_least(TWICE, "short", 0, 1, [2, 3], thing), False, thing)

    def test_bools_are_no_places(self):
        table = (2, (("meet", 0, 1), ("look", 0), ("look", 1), ("meet", 0, 1)))
        first = (2, (("look", 0), ("look", 1), ("add", 0), ("meet", 0, 1)))
        self.assertIs(shows_least(table, "long", 0, 1, [3], ((3,),)), True)
        self.assertIs(shows_least(first, "long", 0, 1, [3], ((3,),)), True)
        second = (3, (("look", 0), ("meet", 0, 1), ("look", 2), ("meet", 1, 2)))
        self.assertIs(shows_least(second, "long", 0, 1, [1], ((1, 3),)), True)
        self.assertIs(shows_least(second, "long", 0, 1, [1], ((True, 3),)), False)

    def test_any_thing(self):
        for thing in junk() + [nested(12, (2, 5), tuple), nested(10, ((2, 5),), tuple), nested(11, (2, 5), list)]:
            for kind, i, j, lost in (("long", 0, 1, [2]), ("short", 0, 1, [])):
                want = thing == () and type(thing) is tuple and kind == "short"
                self.assertIs(shows_least(TABLE, kind, i, j, lost, thing), want, thing)


class Both(unittest.TestCase):

    def test_by_trying_all_pairs_of_liars_and_losses(self):
        kinds_of_frontier = set()
        for table, kind, i, j in cases(8, 16):
            places, others = meeting_list(table), others_of(table, i, j)
            hiding = [(liars, lost) for liars in subsets(others) for lost in subsets(places)
                      if it_hides(table, kind, i, j, liars, lost)]
            sizes = {(len(liars), len(lost)) for liars, lost in hiding}
            want = sorted(size for size in sizes
                          if not any(one != size and one[0] <= size[0] and one[1] <= size[1] for one in sizes))
            self.assertEqual(frontier(table, kind, i, j), want, (table, kind, i, j))
            kinds_of_frontier.add(tuple(want))
            for many in range(len(others) + 2):
                some = [way for way in hiding if len(way[0]) <= many]
                want = min(some, key=lambda way: (len(way[1]), len(way[0]), way)) if some else None
                self.assertEqual(faults(table, kind, i, j, many), want, (table, kind, i, j, many))
        self.assertGreater(len(kinds_of_frontier), 5)

    def test_fewer_lost_count_more_than_fewer_liars(self):
        table = (5, (("look", 0), ("look", 1), ("meet", 0, 2), ("meet", 2, 1), ("meet", 0, 3), ("meet", 3, 1)))
        self.assertEqual(frontier(table, "long", 0, 1), [(0, 2), (1, 1), (2, 0)])
        self.assertEqual([faults(table, "long", 0, 1, many) for many in range(4)],
                         [((), (2, 4)), ((2,), (4,)), ((2, 3), ()), ((2, 3), ())])
        uneven = (4, table[1] + (("meet", 0, 3), ("meet", 3, 1)))
        self.assertEqual(frontier(uneven, "long", 0, 1), [(0, 3), (1, 1), (2, 0)])
        self.assertEqual([faults(uneven, "long", 0, 1, many) for many in range(2)], [((), (2, 4, 6)), ((3,), (2,))])
        straight = (3, table[1][:4] + (("meet", 0, 1),))
        self.assertEqual(frontier(straight, "long", 0, 1), [(0, 2), (1, 1)])
        self.assertEqual(faults(straight, "long", 0, 1, 2), ((2,), (4,)))

    def test_fragile_by_trying(self):
        for table in fault_tables(9, 40):
            places = meeting_list(table)
            for kind in KINDS:
                before = None
                for many in range(len(places) + 2):
                    want = sorted({pair for lost in subsets(places) if len(lost) <= many
                                   for pair in told_hidden(left_over(table, (), lost)[0], kind)})
                    got = fragile(table, kind, many)
                    self.assertEqual(got, want, (table, kind, many))
                    if many == 0:
                        self.assertEqual(got, hidden_pairs(table, kind))
                    self.assertTrue(before is None or set(before) <= set(got))
                    before = got

    def test_fragile_is_chosen_for_each_pair(self):
        self.assertEqual(fragile(LINE[:1] + (LINE[1][2:],), "short", 1)[:2], [(0, 1), (0, 2)])
        table = (4, (("look", 0), ("look", 1), ("look", 2), ("look", 3), ("meet", 0, 1), ("meet", 2, 3)))
        self.assertEqual(fragile(table, "long", 0), [(0, 2), (0, 3), (1, 2), (1, 3)])
        self.assertEqual(fragile(table, "long", 1), list(itertools.combinations(range(4), 2)))


class Bounds(unittest.TestCase):

    def tables(self):
        dice = chance(10)
        looks = tuple(("look", k % 6) for k in range(8))
        yield 6, looks + tuple(("meet", k, k + 1) for k in range(5)) + (("meet", 0, 5), ("add", 0), ("add", 1))
        yield 6, looks + (("meet", 0, 1),) * 6 + (("add", 0), ("add", 1))
        yield 6, (("add", 2),) + looks + tuple(("tell", k, 5 - k) for k in range(6)) + (("add", 3),)
        for _ in range(4):
            yield random_table(dice, 6, 8, 2, 6)

    def test_at_the_bounds(self):
        for table in self.tables():
            self.assertEqual((table[0], len(table[1]), len(look_list(table)), len(meeting_list(table))), (6, 16, 8, 6))
            for kind in KINDS:
                self.assertLessEqual(set(hidden_pairs(table, kind)), set(fragile(table, kind, 3)))
                for i, j in ((0, 1), (1, 6), (5, 2), (3, 4)):
                    lost, liars = least_lost(table, kind, i, j), least_liars(table, kind, i, j)
                    paper = lost_paper(table, kind, i, j)
                    self.assertEqual((lost is None, paper is None), (lost is None,) * 2)
                    if lost is not None:
                        self.assertIs(shows_least(table, kind, i, j, lost, paper), True)
                        self.assertTrue(it_hides(table, kind, i, j, (), lost))
                        self.assertEqual(faults(table, kind, i, j, 0), ((), lost))
                        self.assertEqual(frontier(table, kind, i, j)[0], (0, len(lost)))
                    if liars is not None:
                        self.assertTrue(it_hides(table, kind, i, j, liars, ()))
                        self.assertEqual(faults(table, kind, i, j, 6), (liars, ()))
                        self.assertEqual(frontier(table, kind, i, j)[-1], (len(liars), 0))

    def test_somewhat_beyond(self):
        table = (7, tuple(("look", k) for k in range(7)) + tuple(("meet", k, k + 1) for k in range(6)) + (("meet", 0, 6),))
        self.assertEqual((least_lost(table, "long", 0, 3), least_liars(table, "long", 0, 6)), ((7, 10), None))
        self.assertEqual(nets(table, "long", 0, 3), [(7, 8, 9), (10, 11, 12, 13)])
        self.assertEqual(nets(table, "long", 0, 6), [(13,), (7, 8, 9, 10, 11, 12)])


if __name__ == "__main__":
    unittest.main()
