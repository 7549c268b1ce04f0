"""Point [6]: which forks stay unseen, by its rules."""

import itertools
import unittest

from hiddenforks.data import is_story
from hiddenforks.errors import NoLook
from hiddenforks.forks import alikes, fork, hidden, hidden_pairs, leads, paper, seen_at, shows_seen
from hiddenforks.hall import is_unseen

from support import (DRAWN, KINDS, LINE, TABLE, chance, first_notice, is_paper, junk, large_tables, listed, look_list,
                     middle_tables, ruled, small_tables, unlike)

OF_TWO = (hidden, fork, seen_at, paper)


def pairs_of(table):
    return list(itertools.combinations(range(len(look_list(table))), 2))


class Rules(unittest.TestCase):
    """Each rule alone, by hand."""

    def check(self, table, kind, lead, same):
        self.assertEqual((leads(table, kind), alikes(table, kind)), (lead, same))
        self.assertEqual(hidden_pairs(table, kind), [pair for pair in pairs_of(table) if pair not in same])

    def test_own_looks_lead_to_later_ones(self):
        table = (2, (("look", 0), ("look", 1), ("look", 0), ("look", 0)))
        for kind in KINDS:
            self.check(table, kind, [(0, 2), (0, 3), (2, 3)], [(0, 2), (0, 3), (2, 3)])

    def test_by_a_meet_both_have_what_one_of_them_had(self):
        for who in ((0, 1), (1, 0)):
            table = (2, (("look", 0), ("meet", *who), ("look", 1)))
            self.check(table, "long", [(0, 1)], [(0, 1)])
            self.check(table, "short", [], [])

    def test_by_a_tell_other_has_what_person_had(self):
        self.check((2, (("look", 0), ("tell", 0, 1), ("look", 1))), "long", [(0, 1)], [(0, 1)])
        self.check((2, (("look", 0), ("tell", 1, 0), ("look", 1))), "long", [], [])
        self.check((2, (("look", 0), ("tell", 0, 1), ("look", 1))), "short", [], [])

    def test_what_is_had_goes_on(self):
        chain = (4, (("look", 0), ("meet", 0, 1), ("tell", 1, 2), ("meet", 3, 2), ("look", 3)))
        self.check(chain, "long", [(0, 1)], [(0, 1)])
        late = (4, (("look", 0), ("meet", 3, 2), ("tell", 1, 2), ("meet", 0, 1), ("look", 3)))
        self.check(late, "long", [], [])

    def test_alike_once_they_meet_or_one_tells_the_other(self):
        for event in (("meet", 0, 1), ("meet", 1, 0), ("tell", 0, 1), ("tell", 1, 0)):
            for kind in KINDS:
                self.check((2, (("look", 0), ("look", 1), event)), kind, [], [(0, 1)])
                self.check((2, (event, ("look", 0), ("look", 1))), kind, [], [])

    def test_of_kind_long_all_that_both_have_is_alike(self):
        table = (4, (("look", 0), ("look", 1), ("look", 2), ("look", 3), ("tell", 0, 1), ("tell", 2, 3), ("meet", 1, 3)))
        self.check(table, "long", [], [(0, 1), (0, 2), (0, 3), (1, 2), (1, 3), (2, 3)])
        self.check(table, "short", [], [(0, 1), (1, 3), (2, 3)])

    def test_of_a_tell_alone_person_does_not_have_it(self):
        table = (3, (("look", 0), ("look", 1), ("tell", 0, 1), ("look", 2), ("meet", 0, 2)))
        self.check(table, "long", [], [(0, 1), (0, 2)])

    def test_of_kind_short_only_the_last_looks(self):
        table = (2, (("look", 0), ("look", 1), ("look", 0), ("look", 1), ("meet", 0, 1)))
        self.check(table, "short", [(0, 2), (1, 3)], [(0, 1), (0, 2), (0, 3), (1, 2), (1, 3), (2, 3)])
        table = (2, (("look", 0), ("look", 1), ("meet", 0, 1), ("look", 0), ("look", 1)))
        self.check(table, "short", [(0, 2), (1, 3)], [(0, 1), (0, 2), (1, 3)])

    def test_who_has_not_looked_has_nothing(self):
        for kind in KINDS:
            self.check((3, (("look", 0), ("meet", 0, 1), ("tell", 2, 0), ("meet", 1, 2))), kind, [], [])

    def test_leads_go_on(self):
        table = (2, (("look", 0), ("look", 1), ("add", 1), ("look", 1), ("meet", 0, 1), ("look", 1)))
        self.check(table, "short", [(0, 2), (0, 3), (1, 2), (1, 3), (2, 3)], pairs_of(table))
        table = (2, table[1][:5] + (("look", 0),))
        self.check(table, "short", [(0, 2), (0, 3), (1, 2)], [(0, 1), (0, 2), (0, 3), (1, 2)])

    def test_what_leads_to_an_alike_one_is_alike(self):
        table = (3, (("look", 0), ("look", 1), ("look", 0), ("meet", 0, 1)))
        self.check(table, "short", [(0, 2)], [(0, 1), (0, 2), (1, 2)])
        table = (3, (("look", 0), ("look", 1), ("meet", 0, 1), ("look", 0)))
        self.check(table, "short", [(0, 2)], [(0, 1), (0, 2)])

    def test_an_own_add_between_draws(self):
        for events, lead in (((("look", 0), ("add", 1), ("look", 1)), [(0, 1)]),
                             ((("look", 0), ("add", 0), ("look", 1)), []), ((("add", 1), ("look", 0), ("look", 1)), []),
                             ((("look", 0), ("look", 1), ("add", 1)), []), ((("add", 0), ("look", 0), ("look", 1)), []),
                             ((("look", 0), ("add", 2), ("look", 1)), [])):
            for kind in KINDS:
                self.check((3, events + (("meet", 0, 1),)), kind, lead, [(0, 1)])

    def test_drawn_to_one_side_and_to_the_other(self):
        self.check(DRAWN, "long", [(0, 2), (1, 2)], [(0, 1), (0, 2), (1, 2)])
        without = (5, tuple(event for event in DRAWN[1] if event[0] != "add"))
        self.check(without, "long", [], [(0, 2), (1, 2)])
        self.check(DRAWN, "short", [], [])

    def test_alike_in_a_row_but_not_beyond(self):
        self.check(LINE, "short", [], [(0, 3), (1, 2), (1, 3), (2, 4)])
        for i, j in ((0, 1), (0, 2), (0, 4), (3, 4), (4, 0)):
            story = fork(LINE, "short", i, j)
            self.assertTrue(is_unseen(LINE, "short", story) and unlike(story[i], story[j]))

    def test_edges(self):
        for kind in KINDS:
            for table in ((1, ()), (6, ()), (1, (("look", 0),)), (1, (("add", 0),)), (2, (("meet", 0, 1),)),
                          (2, (("add", 0), ("tell", 0, 1)))):
                self.check(table, kind, [], [])
            self.check((1, (("look", 0), ("add", 0), ("look", 0))), kind, [(0, 1)], [(0, 1)])


class Seen(unittest.TestCase):

    def test_the_first_event_behind_which_it_is_not_hidden(self):
        for table, kind, i, j, want in (
                (TABLE, "long", 0, 1, 5), (TABLE, "long", 0, 2, 4), (TABLE, "long", 1, 2, 5), (TABLE, "short", 1, 2, 5),
                (TABLE, "short", 0, 1, None), (TABLE, "short", 0, 2, None), (DRAWN, "long", 0, 1, 7),
                (DRAWN, "long", 0, 2, 5), (DRAWN, "long", 1, 2, 7),
                ((2, (("look", 0), ("look", 1), ("tell", 0, 1), ("meet", 0, 1))), "short", 0, 1, 2),
                ((1, (("look", 0), ("look", 0), ("look", 0))), "short", 0, 2, 2)):
            self.assertEqual(seen_at(table, kind, i, j), want)
            self.assertEqual(seen_at(table, kind, j, i), want)

    def test_with_what_comes_behind_cut_off(self):
        for table in list(small_tables(31, 150)) + list(large_tables(32, 12)):
            for kind in KINDS:
                for i, j in pairs_of(table):
                    place = seen_at(table, kind, i, j)
                    self.assertEqual(place is None, hidden(table, kind, i, j))
                    if place is None:
                        continue
                    self.assertGreaterEqual(place, look_list(table)[j][0])
                    self.assertFalse(hidden((table[0], table[1][:place + 1]), kind, i, j))
                    if place > look_list(table)[j][0]:
                        self.assertTrue(hidden((table[0], table[1][:place]), kind, i, j))


class ByChance(unittest.TestCase):

    def test_the_rules_told_another_way(self):
        for table in list(small_tables(21, 500)) + list(large_tables(22, 60)):
            for kind in KINDS:
                lead, same = ruled(table, kind)
                self.assertEqual((leads(table, kind), alikes(table, kind)), (lead, same), table)
                rest = [pair for pair in pairs_of(table) if pair not in same]
                self.assertEqual(hidden_pairs(table, kind), rest, table)

    def test_each_pair_is_hidden_with_a_story_or_seen_with_a_paper(self):
        tables = [TABLE, DRAWN, LINE] + list(small_tables(23, 200)) + list(middle_tables(25, 60))
        for table in tables + list(large_tables(24, 10)):
            for kind in KINDS:
                pairs = hidden_pairs(table, kind)
                for i, j in pairs_of(table):
                    for one, other in ((i, j), (j, i)):
                        self.check_pair(table, kind, one, other, (i, j) in pairs)

    def check_pair(self, table, kind, i, j, is_hidden):
        self.assertIs(hidden(table, kind, i, j), is_hidden)
        story, shown = fork(table, kind, i, j), paper(table, kind, i, j)
        if is_hidden:
            self.assertIsNone(shown)
            self.assertIs(is_story(table, story), True)
            self.assertIs(is_unseen(table, kind, story), True)
            self.assertIsNone(first_notice(table, kind, story))
            self.assertTrue(unlike(story[i], story[j]))
        else:
            self.assertIsNone(story)
            self.assertTrue(is_paper(table, kind, i, j, shown), (table, kind, i, j, shown))
            self.assertIs(shows_seen(table, kind, i, j, shown), True)
            self.assertIs(shows_seen(table, kind, j, i, shown), True)


class Papers(unittest.TestCase):

    def test_the_order_does_not_matter_of_alike_only(self):
        for fact, want in ((("alike", 0, 2), True), (("alike", 2, 0), True), (("begins", 0, 2), False)):
            self.assertIs(shows_seen(TABLE, "long", 0, 2, (("begins", 0, 2), fact)), want)
        self.assertIs(shows_seen(TABLE, "long", 0, 2, (("begins", 2, 0), ("alike", 0, 2))), False)
        self.assertIs(shows_seen(TABLE, "short", 2, 1, (("alike", 2, 1),)), True)

    def test_each_rule(self):
        own = (2, (("look", 0), ("add", 1), ("look", 1), ("look", 1), ("meet", 0, 1)))
        first, last = ("begins", 1, 2), ("alike", 0, 2)
        good = (first, last, ("alike", 0, 1))
        for thing in (good, (last, first, ("alike", 1, 0)), (last, ("alike", 2, 0), first, first, ("alike", 0, 1)),
                      (last, ("begins", 0, 2), first, ("alike", 1, 2), ("alike", 0, 1)),
                      (last, first, ("alike", 0, 1), ("begins", 0, 1), ("alike", 0, 1))):
            self.assertIs(shows_seen(own, "short", 0, 1, thing), True, thing)
        for thing in (good[1:], good[:1] + good[2:], good[:2], (good[2],), (good[2], first, last),
                      (first, last, ("begins", 0, 1), ("alike", 0, 1)), (last, ("begins", 0, 1), ("alike", 0, 1)),
                      good + (last,), (("begins", 2, 1), last, good[2]), (first, last, ("begins", 1, 0), good[2])):
            self.assertIs(shows_seen(own, "short", 0, 1, thing), False, thing)

    def test_leads_follow_one_another(self):
        table = (2, (("look", 0), ("add", 1), ("look", 1), ("meet", 0, 1), ("look", 1), ("look", 0)))
        made = (("alike", 0, 1), ("begins", 0, 1), ("begins", 1, 2), ("begins", 0, 2), ("alike", 0, 2))
        self.assertIs(shows_seen(table, "short", 0, 2, made), True)
        self.assertIs(shows_seen(table, "short", 0, 2, made[:1] + made[2:]), False)
        self.assertIs(shows_seen(table, "short", 0, 2, made[:2] + made[3:]), False)

    def test_looks_that_one_of_both_has(self):
        table = (3, (("look", 0), ("look", 1), ("meet", 0, 1), ("meet", 1, 2)))
        self.assertIs(shows_seen(table, "long", 0, 1, (("alike", 0, 1),)), True)
        self.assertIs(shows_seen(table, "short", 0, 1, (("alike", 0, 1),)), True)
        self.assertIs(shows_seen((3, table[1][:2] + table[1][3:]), "long", 0, 1, (("alike", 0, 1),)), False)

    def test_nothing_shows_a_hidden_pair(self):
        for thing in ((), (("alike", 0, 1),), (("alike", 1, 2), ("alike", 0, 1)), (("begins", 0, 1), ("alike", 0, 1))):
            self.assertIs(shows_seen(TABLE, "short", 0, 1, thing), False)

    def test_values_of_every_other_kind(self):
        good = paper(TABLE, "short", 1, 2)
        self.assertEqual(good, (("alike", 1, 2),))
        self.assertIs(shows_seen(TABLE, "short", 1, 2, good[0]), False)
        for thing in junk() + [listed(good), list(good), tuple(listed(good)), (good,), ()]:
            self.assertIs(shows_seen(TABLE, "short", 1, 2, thing), False, thing)
            self.assertIs(shows_seen(TABLE, "short", 1, 2, (thing,) + good), False, thing)
            self.assertIs(shows_seen(TABLE, "short", 1, 2, good + (thing,)), False, thing)

    def test_facts_that_are_none(self):
        good = (("alike", 1, 2),)
        for fact in (("alike", 1), ("alike",), ("alike", 1, 2, 0), ("same", 1, 2), ("Alike", 1, 2), (1, 2), ("alike", 1, 1),
                     ("alike", 1, 3), ("alike", -1, 2), ("begins", 1, 1), ("begins", -1, 2), ("begins", 1, 3),
                     ("alike", True, 2), ("alike", 2, True), ("alike", None, 2), ("alike", "1", "2"), ("alike", (1,), 2),
                     ("alike", [1], 2), (("alike",), 1, 2), (["alike"], 1, 2), ("alike", 1, 10 ** 20), (True, 1, 2)):
            for thing in ((fact,), (fact,) + good, good + (fact,), (fact, fact)):
                self.assertIs(shows_seen(TABLE, "short", 1, 2, thing), False, thing)

    def test_bent_papers(self):
        dice, counts = chance(41), [0, 0]
        for table in list(small_tables(42, 300)) + list(large_tables(43, 15)):
            for kind in KINDS:
                for i, j in alikes(table, kind):
                    shown = paper(table, kind, i, j)
                    for thing in bent(dice, shown, len(look_list(table))):
                        want = is_paper(table, kind, i, j, thing)
                        self.assertIs(shows_seen(table, kind, i, j, thing), want, (table, kind, i, j, thing))
                        counts[want] += 1
        self.assertGreater(min(counts), 200, counts)


def bent(dice, shown, many):
    """Papers like this one: without a fact, with one twice, in another order, with another one."""
    at = dice.randrange(len(shown))
    word, one, other = shown[at]
    yield shown[:at] + shown[at + 1:]
    yield shown[:at] + (shown[at],) + shown[at:]
    yield tuple(dice.sample(shown, len(shown)))
    yield shown[:at] + ((word, other, one),) + shown[at + 1:]
    yield shown[:at] + (("begins" if word == "alike" else "alike", one, other),) + shown[at + 1:]
    yield shown[:at] + ((word, one, dice.randrange(many)),) + shown[at + 1:]
    yield shown + (("alike", *dice.sample(range(many), 2)),)
    yield ((dice.choice(["alike", "begins"]), *sorted(dice.sample(range(many), 2))),) + shown
    yield shown[::-1]


class Wrong(unittest.TestCase):

    def check(self, table, i, j, number):
        for kind in KINDS:
            for function in OF_TWO:
                with self.assertRaises(NoLook) as caught:
                    function(table, kind, i, j)
                self.assertEqual(vars(caught.exception), {"number": number})
            for thing in ((), None, (("alike", i, j),)):
                with self.assertRaises(NoLook) as caught:
                    shows_seen(table, kind, i, j, thing)
                self.assertEqual(vars(caught.exception), {"number": number})

    def test_no_look(self):
        for number in (-1, 3, 4, -3, 10 ** 20):
            self.check(TABLE, number, 1, number)
            self.check(TABLE, 2, number, number)
            self.check(TABLE, 0, number, number)

    def test_i_goes_ahead_of_j(self):
        self.check(TABLE, 3, -1, 3)
        self.check(TABLE, -1, 3, -1)
        self.check(TABLE, 9, 5, 9)

    def test_no_looks_at_all(self):
        for table in ((1, ()), (2, (("add", 0), ("meet", 0, 1)))):
            self.check(table, 0, 1, 0)
        self.check((1, (("look", 0),)), 0, 1, 1)
        self.check((1, (("look", 0),)), 1, 0, 1)


if __name__ == "__main__":
    unittest.main()
