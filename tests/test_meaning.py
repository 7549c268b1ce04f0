"""Point [6] against its own meaning: small timetables, by trying stories. Guarantee (a) of point [1]."""

import itertools
import unittest

from hiddenforks.data import is_story
from hiddenforks.forks import alikes, fork, hidden, hidden_pairs, leads
from hiddenforks.hall import is_unseen

from support import DRAWN, KINDS, TABLE, look_list, small_tables, starts, tried_hidden, unlike, unseen_stories


def tiny_tables():
    """Every timetable of two people and four events in which each begins with a look."""
    events = [("look", 0), ("look", 1), ("add", 0), ("add", 1), ("meet", 0, 1), ("tell", 0, 1), ("tell", 1, 0)]
    for rest in itertools.product(events, repeat=3):
        yield 2, (("look", 0),) + rest


class Meaning(unittest.TestCase):

    def test_hidden_exactly_if_an_unseen_story_shows_it_unlike(self):
        both = [0, 0]
        for table in small_tables(51, 350):
            for kind in KINDS:
                want = tried_hidden(table, kind)
                self.assertEqual(hidden_pairs(table, kind), want, (table, kind))
                both[0] += len(want)
                both[1] += len(alikes(table, kind))
        self.assertGreater(min(both), 200)

    def test_every_tiny_timetable(self):
        for table in tiny_tables():
            for kind in KINDS:
                self.assertEqual(hidden_pairs(table, kind), tried_hidden(table, kind), (table, kind))

    def test_more_made_up_entries_hide_no_more(self):
        for table in small_tables(52, 60):
            if len(look_list(table)) <= 3 and ("add", 0) not in table[1]:
                for kind in KINDS:
                    want = tried_hidden(table, kind, (1000, 1001, 1002))
                    self.assertEqual(hidden_pairs(table, kind), want, (table, kind))

    def test_the_document_s_timetables(self):
        self.assertEqual(tried_hidden(TABLE, "long"), [])
        self.assertEqual(tried_hidden(TABLE, "short"), [(0, 1), (0, 2)])
        self.assertEqual(tried_hidden(DRAWN, "long"), [])

    def test_alike_and_leads_hold_in_each_unseen_story(self):
        for table in small_tables(53, 80):
            for kind in KINDS:
                same, lead = alikes(table, kind), leads(table, kind)
                for story in unseen_stories(table, kind):
                    self.assertFalse([pair for pair in same if unlike(story[pair[0]], story[pair[1]])])
                    self.assertTrue(all(starts(story[one], story[other]) for one, other in lead))

    def test_fork_is_one_of_the_stories(self):
        for table in small_tables(54, 200):
            for kind in KINDS:
                for i, j in itertools.permutations(range(len(look_list(table))), 2):
                    story = fork(table, kind, i, j)
                    self.assertEqual(story is not None, hidden(table, kind, i, j))
                    if story is not None:
                        self.assertTrue(is_story(table, story) and is_unseen(table, kind, story))
                        self.assertTrue(unlike(story[i], story[j]))


if __name__ == "__main__":
    unittest.main()
