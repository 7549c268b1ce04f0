"""Point [4]: timetables, heads and stories."""

import itertools
import unittest

from hiddenforks.data import adds, begins, comparable, is_event, is_head, is_story, is_timetable, looks

from support import DRAWN, TABLE, junk, listed, nested


class Events(unittest.TestCase):

    def test_the_four_events(self):
        for event in (("look", 0), ("look", 2), ("add", 0), ("add", 2), ("meet", 0, 2), ("meet", 2, 0), ("tell", 1, 0),
                      ("tell", 0, 1)):
            self.assertIs(is_event(3, event), True, event)

    def test_people_are_numbered_from_nought(self):
        for event in (("look", 3), ("look", -1), ("add", 3), ("add", -1), ("meet", 0, 3), ("meet", 3, 0),
                      ("tell", -1, 0), ("tell", 0, -1), ("look", 10 ** 20)):
            self.assertIs(is_event(3, event), False, event)
        self.assertIs(is_event(1, ("look", 0)), True)
        self.assertIs(is_event(1, ("meet", 0, 1)), False)
        self.assertIs(is_event(100, ("tell", 99, 98)), True)

    def test_two_people_are_unlike(self):
        self.assertIs(is_event(3, ("meet", 1, 1)), False)
        self.assertIs(is_event(3, ("tell", 0, 0)), False)

    def test_other_lengths_and_words(self):
        for event in ((), ("look",), ("look", 0, 1), ("add",), ("add", 0, 1), ("meet", 0), ("meet", 0, 1, 2), ("tell",),
                      ("tell", 0), ("tell", 0, 1, 2), ("Look", 0), ("hear", 0), ("hear", 0, 1), ("", 0), (0, 0),
                      (None, 0), (("look",), 0), (["look"], 0), ("look ", 0), (0, "look"), ("meetmeet", 0, 1)):
            self.assertIs(is_event(3, event), False, event)

    def test_bools_and_others_are_no_people(self):
        for worth in (True, False, None, "0", (), (0,), [0], [], ((0,),)):
            for event in (("look", worth), ("add", worth), ("meet", worth, 2), ("meet", 2, worth), ("tell", 2, worth),
                          ("tell", worth, 2)):
                self.assertIs(is_event(3, event), False, event)

    def test_values_of_every_other_kind(self):
        for thing in junk():
            self.assertIs(is_event(3, thing), False, thing)

    def test_a_list_is_no_event(self):
        self.assertIs(is_event(3, ["look", 0]), False)
        self.assertIs(is_event(3, ["meet", 0, 1]), False)


class Timetables(unittest.TestCase):

    def test_timetables(self):
        for thing in (TABLE, DRAWN, (1, ()), (6, ()), (1, (("look", 0), ("add", 0))), (7, (("look", 6),) * 40),
                      (2, (("meet", 0, 1), ("meet", 1, 0), ("tell", 0, 1)))):
            self.assertIs(is_timetable(thing), True, thing)

    def test_at_least_one_person(self):
        for people in (0, -1, True, False, None, "3", (), (3,), [3]):
            self.assertIs(is_timetable((people, ())), False, people)

    def test_one_bad_event_spoils_it(self):
        for event in (("look", 3), ("look", True), ("meet", 1, 1), ["look", 0], ("look",), (), None, 0, "look"):
            for at in range(4):
                events = list(TABLE[1])
                events.insert(at, event)
                self.assertIs(is_timetable((3, tuple(events))), False, event)

    def test_exactly_a_pair_of_a_number_and_a_tuple(self):
        for thing in ((3,), (3, (), ()), (), TABLE[1], (TABLE[1], 3), listed(TABLE), (3, list(TABLE[1])), list(TABLE),
                      (3, (("look", 0), ["look", 0])), (3, None), (3, 0), (3, "look"), (3, ""), (3, ("look", 0))):
            self.assertIs(is_timetable(thing), False, thing)

    def test_values_of_every_other_kind(self):
        for thing in junk():
            self.assertIs(is_timetable(thing), False, thing)
            self.assertIs(is_timetable((3, thing)), False, thing)
            self.assertIs(is_timetable((3, (thing,))), False, thing)

    def test_looks_and_adds(self):
        table = (3, (("add", 1), ("look", 2), ("tell", 0, 1), ("add", 0), ("meet", 2, 1), ("look", 2), ("look", 0)))
        self.assertEqual(looks(table), [(1, 2), (5, 2), (6, 0)])
        self.assertEqual(adds(table), [(0, 1), (3, 0)])
        self.assertEqual((looks((1, ())), adds((1, ()))), ([], []))
        self.assertEqual((looks((2, (("meet", 0, 1),))), adds((2, (("tell", 1, 0),)))), ([], []))
        self.assertTrue(all(type(pair) is tuple for pair in looks(listed(table)) + adds(listed(table))))


class Heads(unittest.TestCase):

    def test_heads(self):
        for thing in ((), (0,), (999,), (1000,), (5, 1000, 0, 1001), tuple(range(100)), (10 ** 30,)):
            self.assertIs(is_head(thing), True, thing)

    def test_entries_are_unlike_numbers_from_nought(self):
        for thing in ((-1,), (0, 0), (1, 0, 1), (1000, 1000), (True,), (False,), (0, True), (None,), ("0",), ((),),
                      ((0,),), ([0],), (0, -1), (0, [])):
            self.assertIs(is_head(thing), False, thing)

    def test_values_of_every_other_kind(self):
        for thing in junk():
            self.assertIs(is_head(thing), False, thing)
        self.assertIs(is_head([]), False)
        self.assertIs(is_head([1000]), False)

    def test_begins(self):
        heads = [(), (1,), (0,), (1, 0), (0, 1), (1, 0, 1000), (1, 1000, 0), (1000,)]
        for head, other in itertools.product(heads, heads):
            self.assertIs(begins(head, other), any(other[:k] == head for k in range(len(other) + 1)), (head, other))
            self.assertIs(comparable(head, other), begins(head, other) or begins(other, head), (head, other))

    def test_begins_and_comparable_by_hand(self):
        self.assertEqual([begins((), ()), begins((), (1,)), begins((1,), ()), begins((1,), (1,)), begins((1,), (2,))],
                         [True, True, False, True, False])
        self.assertEqual([begins((1, 2), (1, 2, 3)), begins((2,), (1, 2)), begins((1, 3), (1, 2, 3))],
                         [True, False, False])
        self.assertEqual([comparable((), (3,)), comparable((3,), ()), comparable((1, 2), (1, 3)), comparable((1,), (1,)),
                          comparable((1, 2, 3), (1, 2)), comparable((1, 0), (0, 1))],
                         [True, True, False, True, True, False])

    def test_lists_for_tuples(self):
        for head, other in itertools.product([[1], (1,)], [[1, 0], (1, 0)]):
            self.assertIs(begins(head, other), True)
            self.assertIs(begins(other, head), False)
            self.assertIs(comparable(head, other), True)
            self.assertIs(comparable(other, head), True)
        self.assertIs(comparable([1, 0], (0, 1)), False)


class Stories(unittest.TestCase):

    def test_stories(self):
        for story in (((), (), ()), ((1000,), (1001,), (0,)), ((5000, 1000), (1000,), (0, 1000)),
                      ((), (), (1000, 0, 1001))):
            self.assertIs(is_story(TABLE, story), True, story)

    def test_a_head_for_each_look(self):
        for story in ((), ((),), ((), ()), ((), (), (), ())):
            self.assertIs(is_story(TABLE, story), False, story)
        self.assertIs(is_story((1, ()), ()), True)
        self.assertIs(is_story((1, (("add", 0),)), ()), True)
        self.assertIs(is_story((1, ()), ((),)), False)

    def test_an_entry_must_be_added_ahead_of_the_look(self):
        table = (2, (("look", 0), ("add", 1), ("look", 0), ("add", 0), ("look", 1)))
        for story in (((), (0,), (1, 0)), ((), (), ()), ((), (0,), (1,)), ((1000,), (0, 1000), (1000, 1, 0))):
            self.assertIs(is_story(table, story), True, story)
        for story in (((0,), (0,), (0,)), ((), (1,), (1,)), ((), (0, 1), ()), ((), (), (2,)), ((), (), (0, 2)),
                      ((), (), (999,)), ((999,), (), ()), ((), (), (-1,))):
            self.assertIs(is_story(table, story), False, story)

    def test_anybody_can_be_shown_an_added_entry(self):
        self.assertIs(is_story((2, (("add", 0), ("look", 1))), ((0,),)), True)

    def test_heads_must_be_heads(self):
        for head in ((1000, 1000), (True,), (False,), (None,), [1000], [], None, 1000, "", ((),), (-1,)):
            for at in range(3):
                story = [(), (), ()]
                story[at] = head
                self.assertIs(is_story(TABLE, tuple(story)), False, head)

    def test_bools_are_not_entries_nor_lists_stories(self):
        self.assertIs(is_story(TABLE, ((), (), (False,))), False)
        self.assertIs(is_story(TABLE, ((), (), (0,))), True)
        self.assertIs(is_story(TABLE, [(), (), (0,)]), False)
        self.assertIs(is_story(listed(TABLE), ((), (), (0,))), True)
        self.assertIs(is_story(listed(TABLE), [[], [], [0]]), False)

    def test_values_of_every_other_kind(self):
        for thing in junk():
            self.assertIs(is_story(TABLE, thing), False, thing)
            self.assertIs(is_story((1, (("look", 0),)), thing), False, thing)
            self.assertIs(is_story((1, (("look", 0),)), (thing,)), False, thing)
        self.assertIs(is_story((1, (("look", 0),)), (nested(11, 0, tuple),)), False)


if __name__ == "__main__":
    unittest.main()
