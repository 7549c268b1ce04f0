"""Point [5]: what people notice."""

import unittest

from hiddenforks.errors import Alone, BadStory, NoPerson, NotAdded
from hiddenforks.hall import Hall, is_kind, is_unseen, noticed_at

from support import (KINDS, TABLE, chance, first_notice, heads_of, junk, large_tables, listed, look_list, small_tables,
                     step)


def state(hall, people):
    """All that can be asked of a Hall."""
    return ([hall.knows(person) for person in range(people)], [hall.wants(person) for person in range(people)],
            hall.noticed(), hall.adders(), len(hall), repr(hall))


class Looks(unittest.TestCase):

    def test_nobody_knows_anything_at_first(self):
        for kind in KINDS:
            self.assertEqual(state(Hall(2, kind), 2), ([(), ()], [[], []], [], [], 0, "Hall(2 people, 0 noticed)"))

    def test_fine_and_known_from_now_on(self):
        for kind in KINDS:
            hall = Hall(2, kind)
            for head in ((), (1000,), (1000,), (1000, 1001, 1002)):
                self.assertEqual(hall.look(1, head), "fine")
                self.assertEqual((hall.knows(0), hall.knows(1), hall.noticed()), ((), head, []))

    def test_unlike_if_what_is_known_does_not_begin_it(self):
        for kind in KINDS:
            for head in ((), (1000,), (1001, 1000), (1002,), (1000, 1002), (1000, 1002, 1001)):
                hall = Hall(2, kind)
                hall.look(0, (1000, 1001))
                self.assertEqual(hall.look(0, head), "unlike")
                self.assertEqual((hall.knows(0), hall.noticed(), len(hall)), ((1000, 1001), [0], 2))

    def test_missing_if_an_own_entry_is_lacking(self):
        for kind in KINDS:
            hall = Hall(2, kind)
            self.assertEqual([hall.add(0), hall.add(1), hall.add(0)], [0, 1, 2])
            for head in ((), (0,), (2, 1), (1, 1000)):
                self.assertEqual(hall.look(0, head), "missing")
                self.assertEqual((hall.knows(0), hall.noticed()), ((), [0]))
            self.assertEqual(hall.look(0, (2, 1000, 0)), "fine")
            self.assertEqual(hall.look(1, (1,)), "fine")
            self.assertEqual((hall.knows(0), hall.knows(1), hall.noticed()), ((2, 1000, 0), (1,), [0]))

    def test_unlike_goes_ahead_of_missing(self):
        hall = Hall(1, "long")
        hall.look(0, (1000,))
        hall.add(0)
        self.assertEqual(hall.look(0, (1001,)), "unlike")
        self.assertEqual(hall.look(0, (1000,)), "missing")

    def test_an_entry_of_another_one_may_lack(self):
        hall = Hall(2, "short")
        hall.add(1)
        self.assertEqual(hall.look(0, ()), "fine")

    def test_an_entry_of_which_somebody_told_is_not_wanted(self):
        hall = Hall(2, "long")
        hall.add(0)
        hall.look(0, (0, 1000))
        self.assertEqual((hall.tell(0, 1), hall.wants(1)), ("fine", []))
        self.assertEqual(hall.look(1, ()), "unlike")

    def test_what_is_learned_need_not_have_own_entries(self):
        hall = Hall(2, "long")
        hall.add(1)
        hall.look(0, (1000,))
        self.assertEqual((hall.meet(0, 1), hall.knows(1), hall.noticed()), ("fine", (1000,), []))
        self.assertEqual(hall.look(1, (1000,)), "missing")
        self.assertEqual(hall.look(1, (1000, 0)), "fine")


class Meetings(unittest.TestCase):

    def two(self, kind, one, other, people=2):
        hall = Hall(people, kind)
        hall.look(0, one)
        hall.look(1, other)
        return hall

    def test_of_kind_long_both_know_the_longer_one(self):
        for one, other in (((1000,), (1000, 1001)), ((1000, 1001), (1000,)), ((), (1000,)), ((1000,), ()), ((), ())):
            hall = self.two("long", one, other)
            longer = max(one, other, key=len)
            self.assertEqual((hall.meet(0, 1), hall.knows(0), hall.knows(1)), ("fine", longer, longer))

    def test_of_kind_short_nobody_learns(self):
        for word in ("meet", "tell"):
            hall = self.two("short", (1000,), (1000, 1001))
            self.assertEqual((hall.do((word, 0, 1)), hall.do((word, 1, 0))), ("fine", "fine"))
            self.assertEqual((hall.knows(0), hall.knows(1)), ((1000,), (1000, 1001)))

    def test_of_a_tell_other_alone_learns(self):
        hall = self.two("long", (1000,), (1000, 1001))
        self.assertEqual((hall.tell(0, 1), hall.knows(0), hall.knows(1)), ("fine", (1000,), (1000, 1001)))
        self.assertEqual((hall.tell(1, 0), hall.knows(0), hall.knows(1)), ("fine", (1000, 1001), (1000, 1001)))

    def test_of_a_meet_both_notice(self):
        for kind in KINDS:
            hall = self.two(kind, (1000,), (1001, 1000), people=3)
            self.assertEqual((hall.meet(1, 0), hall.noticed()), ("unlike", [0, 1]))
            self.assertEqual((hall.knows(0), hall.knows(1)), ((1000,), (1001, 1000)))

    def test_of_a_tell_other_alone_notices(self):
        for kind in KINDS:
            for person, other in ((0, 1), (1, 0)):
                hall = self.two(kind, (1000,), (1001, 1000))
                self.assertEqual((hall.tell(person, other), hall.noticed()), ("unlike", [other]))
                self.assertEqual((hall.knows(0), hall.knows(1)), ((1000,), (1001, 1000)))

    def test_those_who_noticed_go_on_and_stand_once(self):
        hall = self.two("long", (1000,), (1001,), people=4)
        self.assertEqual([hall.tell(0, 1), hall.meet(0, 1), hall.tell(1, 0)], ["unlike"] * 3)
        self.assertEqual((hall.noticed(), len(hall), repr(hall)), ([0, 1], 5, "Hall(4 people, 2 noticed)"))
        self.assertEqual((hall.look(0, (1000, 1002)), hall.meet(0, 3), hall.knows(3)), ("fine", "fine", (1000, 1002)))
        self.assertEqual((hall.tell(3, 1), hall.tell(1, 3), hall.noticed()), ("unlike", "unlike", [0, 1, 3]))

    def test_noticed_is_ascending(self):
        hall = Hall(5, "short")
        for person in (4, 0, 2):
            hall.look(person, (1000,))
            hall.look(person, ())
        self.assertEqual(hall.noticed(), [0, 2, 4])


class Wrong(unittest.TestCase):

    def check(self, kind, call, error):
        """The call raises this error and changes nothing."""
        hall = Hall(3, kind)
        for event, head in ((("add", 1), None), (("look", 0), (1000,)), (("look", 1), (1001,)), (("tell", 0, 1), None)):
            hall.do(event, head)
        before, twin = state(hall, 3), hall.twin()
        with self.assertRaises(type(error)) as caught:
            call(hall)
        self.assertEqual(vars(caught.exception), vars(error))
        self.assertEqual(state(hall, 3), before)
        self.assertTrue(hall == twin)

    def test_no_person(self):
        for kind in KINDS:
            for number in (-1, 3, 4, -3, 10 ** 20):
                for call in (lambda hall: hall.look(number, ()), lambda hall: hall.look(number, (7,)),
                             lambda hall: hall.add(number), lambda hall: hall.knows(number),
                             lambda hall: hall.wants(number), lambda hall: hall.meet(number, 1),
                             lambda hall: hall.meet(1, number), lambda hall: hall.meet(number, 77),
                             lambda hall: hall.meet(number, number), lambda hall: hall.tell(number, 1),
                             lambda hall: hall.tell(1, number), lambda hall: hall.tell(number, -77),
                             lambda hall: hall.tell(number, number), lambda hall: hall.do(("look", number), (7,)),
                             lambda hall: hall.do(("look", number)), lambda hall: hall.do(("add", number)),
                             lambda hall: hall.do(("meet", number, 9)), lambda hall: hall.do(("tell", 0, number))):
                    self.check(kind, call, NoPerson(number))

    def test_not_added(self):
        for kind in KINDS:
            for head, entry in (((1,), 1), ((0, 1, 2), 1), ((2, 1), 2), ((999,), 999), ((1000, 5, 3), 5),
                                ([0, 999, 1], 999), ((1001, 0, 1), 1)):
                self.check(kind, lambda hall: hall.look(0, head), NotAdded(entry))
                self.check(kind, lambda hall: hall.do(("look", 0), head), NotAdded(entry))

    def test_alone(self):
        for kind in KINDS:
            for person in range(3):
                for call in (lambda hall: hall.meet(person, person), lambda hall: hall.tell(person, person),
                             lambda hall: hall.do(("meet", person, person)),
                             lambda hall: hall.do(["tell", person, person])):
                    self.check(kind, call, Alone(person))

    def test_not_added_is_raised_also_if_it_were_unlike(self):
        self.check("long", lambda hall: hall.look(0, (1001, 1)), NotAdded(1))

    def test_made_up_entries_from_1000_on_and_added_ones_are_fine(self):
        hall = Hall(1, "long")
        hall.add(0)
        self.assertEqual(hall.look(0, (1000, 0, 5000)), "fine")


class Doing(unittest.TestCase):

    def test_do_is_each_method(self):
        for kind in KINDS:
            one, other = Hall(3, kind), Hall(3, kind)
            pairs = [(one.look(0, (1000,)), other.do(("look", 0), (1000,))), (one.add(2), other.do(("add", 2))),
                     (one.look(2, (1000,)), other.do(("look", 2), (1000,))), (one.meet(0, 1), other.do(("meet", 0, 1))),
                     (one.look(1, (1001,)), other.do(("look", 1), head=[1001])),
                     (one.tell(1, 2), other.do(["tell", 1, 2])), (one.add(0), other.do(event=["add", 0]))]
            for got, want in pairs:
                self.assertEqual(got, want)
            self.assertEqual(state(one, 3), state(other, 3))
            self.assertTrue(one == other)

    def test_head_is_looked_at_with_looks_only(self):
        for head in (None, (7,), (1000, 1000), "text", 5, ((),)):
            hall = Hall(2, "long")
            self.assertEqual((hall.do(("add", 0), head), hall.do(("meet", 0, 1), head), hall.do(("tell", 0, 1), head)),
                             (0, "fine", "fine"))
            self.assertEqual(hall.knows(1), ())

    def test_len_counts_what_was_done(self):
        hall = Hall(2, "long")
        for at, (event, head) in enumerate(((("add", 0), None), (("look", 0), ()), (("look", 1), (1000,)),
                                            (("look", 1), ()), (("meet", 0, 1), None), (("tell", 1, 0), None))):
            hall.do(event, head)
            self.assertEqual(len(hall), at + 1)
        hall.knows(0), hall.wants(0), hall.noticed(), hall.adders(), hall.twin(), repr(hall)
        self.assertEqual(len(hall), 6)

    def test_adders_and_wants(self):
        hall = Hall(3, "short")
        self.assertEqual([hall.add(person) for person in (2, 0, 2, 2, 1)], [0, 1, 2, 3, 4])
        self.assertEqual(hall.adders(), [2, 0, 2, 2, 1])
        self.assertEqual([hall.wants(person) for person in range(3)], [[1], [4], [0, 2, 3]])

    def test_repr(self):
        hall = Hall(1, "short")
        self.assertEqual(repr(hall), "Hall(1 people, 0 noticed)")
        hall.look(0, (1000,))
        hall.look(0, (1001,))
        self.assertEqual(repr(hall), "Hall(1 people, 1 noticed)")
        self.assertEqual(repr(Hall(6, "long")), "Hall(6 people, 0 noticed)")


class Twins(unittest.TestCase):

    def busy(self, kind="long"):
        hall = Hall(3, kind)
        for event, head in ((("add", 1), None), (("look", 0), (1000,)), (("look", 1), (1001, 0)), (("meet", 0, 1), None)):
            hall.do(event, head)
        return hall

    def test_a_twin_is_in_the_same_state(self):
        for kind in KINDS:
            hall = self.busy(kind)
            twin = hall.twin()
            self.assertTrue(hall == twin and not hall != twin and hall is not twin)
            self.assertEqual(state(hall, 3), state(twin, 3))
            hall.meet(0, 2), twin.meet(0, 2)
            self.assertEqual(state(hall, 3), state(twin, 3))
            self.assertIsInstance(twin, Hall)

    def test_a_twin_shares_nothing(self):
        for event, head in ((("add", 2), None), (("look", 2), (1000,)), (("look", 2), (0,)), (("meet", 0, 2), None),
                            (("tell", 1, 2), None)):
            hall = self.busy()
            twin, before = hall.twin(), state(hall, 3)
            twin.do(event, head)
            self.assertEqual(state(hall, 3), before)
            twin, before = hall.twin(), state(hall.twin(), 3)
            hall.do(event, head)
            self.assertEqual(state(twin, 3), before)
        hall = self.busy()
        twin = hall.twin()
        hall.look(2, (0,)), hall.meet(2, 0)
        self.assertEqual((hall.noticed(), twin.noticed()), ([0, 1, 2], [0, 1]))

    def test_equal_by_people_kind_knowledge_adders_and_noticed(self):
        self.assertTrue(self.busy() == self.busy())
        self.assertFalse(Hall(2, "long") == Hall(3, "long"))
        self.assertFalse(Hall(2, "long") == Hall(2, "short"))
        for events in ([(("look", 0), (1000, 1001))], [(("add", 0), None)], [(("look", 2), (0,)), (("meet", 2, 0), None)]):
            hall = self.busy()
            for event, head in events:
                hall.do(event, head)
            self.assertIs(hall == self.busy(), False, events)
            self.assertIs(hall != self.busy(), True, events)

    def test_each_part_alone_makes_unlike(self):
        one, other = Hall(2, "short"), Hall(2, "short")
        one.look(0, (1000,))
        self.assertFalse(one == other)
        other.look(0, (1000,))
        self.assertTrue(one == other)
        one.look(0, ())
        self.assertFalse(one == other)
        other.look(0, (1001,))
        self.assertTrue(one == other)
        one.add(0), other.add(1)
        self.assertFalse(one == other)

    def test_len_does_not_count_for_equal(self):
        one, other = self.busy(), self.busy()
        one.meet(0, 1)
        self.assertNotEqual(len(one), len(other))
        self.assertTrue(one == other)

    def test_equal_to_nothing_else(self):
        for thing in junk() + [Hall, object(), "Hall(3 people, 2 noticed)", [self.busy()], (self.busy(),)]:
            self.assertIs(self.busy() == thing, False)
            self.assertIs(self.busy() != thing, True)


class ByChance(unittest.TestCase):

    def test_halls_against_another_telling(self):
        dice = chance(5)
        heads = heads_of((0, 1, 1000, 1001))
        for _ in range(300):
            people, kind = dice.randrange(2, 5), dice.choice(KINDS)
            hall, known, added, noticed = Hall(people, kind), ((),) * people, (), set()
            for _ in range(dice.randrange(25)):
                word = dice.choice(["look", "look", "add", "meet", "tell"])
                who = dice.sample(range(people), 2 if word in ("meet", "tell") else 1)
                head = dice.choice([head for head in heads if all(e >= 1000 or e < len(added) for e in head)])
                if dice.random() < 0.5:
                    head = known[who[0]] + tuple(e for e in head if e not in known[who[0]])
                known, hearers = step(kind, known, added, (word, *who), head)
                answer = hall.do((word, *who), head)
                if word == "add":
                    self.assertEqual(answer, len(added))
                    added += (who[0],)
                else:
                    self.assertEqual(answer == "fine", not hearers)
                noticed |= set(hearers)
                self.assertEqual([hall.knows(person) for person in range(people)], list(known))
                self.assertEqual((hall.noticed(), hall.adders()), (sorted(noticed), list(added)))


class Stories(unittest.TestCase):

    def test_first_place_and_all_who_notice_there(self):
        for kind, story, want in (("long", ((1000,), (1001,), (1000, 0)), (5, (1, 2))), ("long", ((), (), ()), (4, (2,))),
                                  ("long", ((1000,), (), (0,)), (4, (2,))), ("short", ((1000,), (), (0,)), None),
                                  ("long", ((1000,), (1000,), (1000, 0)), None)):
            self.assertEqual(noticed_at(TABLE, kind, story), want)
            self.assertIs(is_unseen(TABLE, kind, story), want is None)

    def test_of_a_tell_other_alone(self):
        table = (3, (("look", 2), ("look", 0), ("tell", 2, 0), ("meet", 0, 2)))
        self.assertEqual(noticed_at(table, "long", ((1000,), (1001,))), (2, (0,)))
        self.assertEqual(noticed_at((3, table[1][:2] + table[1][3:]), "long", ((1000,), (1001,))), (2, (0, 2)))

    def test_no_looks_no_events_one_person(self):
        for kind in KINDS:
            for table in ((1, ()), (6, ()), (2, (("meet", 0, 1), ("add", 0), ("tell", 1, 0)))):
                self.assertIsNone(noticed_at(table, kind, ()))
                self.assertIs(is_unseen(table, kind, ()), True)
            alone = (1, (("look", 0), ("add", 0), ("look", 0)))
            self.assertIsNone(noticed_at(alone, kind, ((), (0,))))
            self.assertEqual(noticed_at(alone, kind, ((), (1000,))), (2, (0,)))
            self.assertEqual(noticed_at(alone, kind, ((1000,), (0, 1000))), (2, (0,)))

    def test_bad_stories(self):
        bad = [(), ((),), ((), ()), ((), (), (), ()), ((0,), (), (0,)), ((), (0,), (0,)), ((), (), (1,)),
               ((), (), (0, 0)), ((), (), (-1,)), ((), (), (999,)), ((True,), (), (0,)), ((), (), (False,)),
               ((), (), 0), (1000, 1001, 0), ((), (), ((0,),))]
        for story in bad + [listed(story) for story in bad] + junk():
            for kind in KINDS:
                for function in (noticed_at, is_unseen):
                    with self.assertRaises(BadStory) as caught:
                        function(TABLE, kind, story)
                    self.assertEqual(vars(caught.exception), {})

    def test_stories_by_chance(self):
        dice = chance(8)
        tables = list(small_tables(8, 300)) + list(large_tables(9, 50))
        for table in tables:
            for kind in KINDS:
                story = []
                for place, _ in look_list(table):
                    added = [event for event in table[1][:place] if event[0] == "add"]
                    story.append(dice.choice(heads_of(tuple(range(min(3, len(added)))) + (1000,))))
                want = first_notice(table, kind, story)
                self.assertEqual(noticed_at(table, kind, tuple(story)), want)
                self.assertIs(is_unseen(table, kind, tuple(story)), want is None)

    def test_is_kind(self):
        for kind in KINDS:
            self.assertIs(is_kind(kind), True)
        for thing in junk() + [("long",), ["short"], "LONG", "longshort", "lo", "short ", b"long"]:
            self.assertIs(is_kind(thing), False)


if __name__ == "__main__":
    unittest.main()
