"""Point [8]: from whom it is kept. Guarantee (c) of point [1]."""

import functools
import itertools
import unittest

from hiddenforks.data import is_story
from hiddenforks.errors import NoLook, NoPerson, NotAdded
from hiddenforks.forks import leads
from hiddenforks.hall import Hall, is_unseen
from hiddenforks.keeping import (add_kept_from, audiences, clash, keep_all, keep_story, keep_way, kept_from, known_at,
                                 shown_to, wish_way)

from support import (DRAWN, HEARD, KINDS, TABLE, chance, check_error, first_shown, fulfils, hearers_of_entry,
                     large_tables, look_list, middle_tables, profiles, random_table, small_tables, subsets, unlike,
                     walks, word_of)


def tried_tables():
    """Timetables whose stories can be tried."""
    dice = chance(21)
    yield from (TABLE, HEARD)
    for looks, adds, many in ((1, 3, 6), (2, 2, 16), (3, 1, 40), (3, 2, 3), (4, 0, 12)):
        for _ in range(many):
            yield random_table(dice, dice.randrange(1, 5), looks, dice.randrange(adds + 1), dice.randrange(6))


@functools.lru_cache(maxsize=None)
def tried_cases():
    """With so many made up entries that each of three looks can have its own."""
    return [(table, kind, profiles(table, kind, (1000, 1001, 1002))) for table in tried_tables() for kind in KINDS]


def by_look(wishes):
    """The people from whom it is kept, by look."""
    wanted = {}
    for look, person in wishes:
        wanted.setdefault(look, set()).add(person)
    return wanted


def hall_hearers(table, kind, story, entry):
    """Who comes to know an entry, by walking the story through a Hall in which nobody may notice."""
    hall, heads, hearers = Hall(table[0], kind), iter(story), set()
    for event in table[1]:
        hall.do(event, next(heads)) if event[0] == "look" else hall.do(event)
        hearers |= {person for person in range(table[0]) if entry in hall.knows(person)}
    assert not hall.noticed()
    return tuple(sorted(hearers))


class Tried(unittest.TestCase):
    """Against the stories of small timetables, all of them."""

    def test_kept_from_and_known_at(self):
        for table, kind, (found, late) in tried_cases():
            for i in range(len(look_list(table))):
                people = [person for person in range(table[0])
                          if any(person not in hearers for _, shown in found for hearers in shown[i])]
                self.assertEqual(kept_from(table, kind, i), people, (table, kind, i))
                self.assertNotEqual(word_of(found, {i: set(people)}), "no")
                for person in range(table[0]):
                    want = None if person in people else late[i, person]
                    self.assertEqual(known_at(table, kind, i, person), want, (table, kind, i, person))

    def test_ways_and_stories(self):
        words = {"no": 0, "delay": 0, "fork": 0}
        for table, kind, (found, _) in tried_cases():
            for i in range(len(look_list(table))):
                for people in subsets(range(table[0])):
                    want = word_of(found, {i: set(people)})
                    words[want] += 1
                    self.assertEqual(keep_way(table, kind, i, list(people)), want, (table, kind, i, people))
                    story = keep_story(table, kind, i, list(reversed(people + people)))
                    self.assertEqual(story is None, want == "no", (table, kind, i, people))
                    if story is not None:
                        self.check_story(table, kind, story, {i: set(people)})
        self.assertGreater(min(words.values()), 10)

    def check_story(self, table, kind, story, wanted):
        self.assertTrue(is_story(table, story) and is_unseen(table, kind, story), (table, kind, story))
        self.assertTrue(fulfils(table, kind, story, wanted), (table, kind, story, wanted))
        for look, people in wanted.items():
            kept = [entry for entry in first_shown(story, look)
                    if not people & set(hall_hearers(table, kind, story, entry))]
            self.assertTrue(kept, (table, kind, story, wanted))

    def test_audiences(self):
        several = 0
        for table, kind, (found, _) in tried_cases():
            for i in range(len(look_list(table))):
                want = sorted({tuple(sorted(hearers)) for _, shown in found for hearers in shown[i]})
                self.assertEqual(audiences(table, kind, i), want, (table, kind, i))
                several += len(want) > 2
                for people in subsets(range(table[0])):
                    story = shown_to(table, kind, i, list(people))
                    self.assertEqual(story is not None, people in want, (table, kind, i, people))
                    if story is not None:
                        self.check_shown(table, kind, i, people, story)
        self.assertGreater(several, 20)

    def check_shown(self, table, kind, i, people, story):
        self.assertTrue(is_story(table, story) and is_unseen(table, kind, story), (table, kind, story))
        hearers = [hearers_of_entry(table, kind, story, entry) for entry in first_shown(story, i)]
        self.assertIn(people, hearers, (table, kind, i, story))
        self.assertIn(people, [hall_hearers(table, kind, story, entry) for entry in first_shown(story, i)])

    def test_wishes(self):
        dice, words, sizes = chance(24), {"no": 0, "delay": 0, "fork": 0}, set()
        for table, kind, (found, _) in tried_cases():
            looks = len(look_list(table))
            for _ in range(12 if looks < 4 else 0):
                wishes = [(dice.randrange(looks), dice.randrange(table[0])) for _ in range(dice.randrange(5))]
                want = word_of(found, by_look(wishes))
                words[want] += 1
                self.assertEqual(wish_way(table, kind, wishes), want, (table, kind, wishes))
                story = keep_all(table, kind, wishes)
                self.assertEqual(story is None, want == "no", (table, kind, wishes))
                if story is not None:
                    self.check_story(table, kind, story, by_look(wishes))
                failing = [some for some in subsets(set(wishes)) if word_of(found, by_look(some)) == "no"]
                self.assertEqual(clash(table, kind, wishes), failing[0] if failing else None, (table, kind, wishes))
                sizes.add(len(failing[0]) if failing else 0)
        self.assertGreater(min(words.values()), 10)
        self.assertLessEqual({0, 1, 2}, sizes)

    def test_added_entries(self):
        looked = 0
        for table in small_tables(26, 60):
            adders = [event[1] for event in table[1] if event[0] == "add"]
            for kind in KINDS:
                hearers = [set() for _ in adders]
                for _, rows in walks(table, kind, (1000, 1001), once=True):
                    for entry, sets in enumerate(hearers):
                        sets.add(frozenset(person for person in range(table[0])
                                           if any(entry in known[person] for known in rows)))
                for entry, sets in enumerate(hearers):
                    want = [person for person in range(table[0]) if any(person not in one for one in sets)]
                    self.assertEqual(add_kept_from(table, kind, entry), want, (table, kind, entry))
                    self.assertTrue([one for one in sets if not set(want) & one], (table, kind, entry))
                    looked += adders[entry] not in want
        self.assertGreater(looked, 10)


class Words(unittest.TestCase):

    def test_no_people(self):
        for table in (TABLE, DRAWN, HEARD):
            for kind in KINDS:
                for i in range(len(look_list(table))):
                    self.assertEqual(keep_way(table, kind, i, []), "delay")
                    story = keep_story(table, kind, i, [])
                    self.assertTrue(is_unseen(table, kind, story) and first_shown(story, i))
                    self.assertIsNone(shown_to(table, kind, i, []))

    def test_no_wishes(self):
        for table in (TABLE, DRAWN, (1, ()), (2, (("add", 0),))):
            for kind in KINDS:
                self.assertTrue(is_unseen(table, kind, keep_all(table, kind, [])))
                self.assertEqual((wish_way(table, kind, []), clash(table, kind, [])), ("delay", None))

    def test_the_looker_always_knows_it(self):
        for table in (TABLE, DRAWN, HEARD):
            for kind in KINDS:
                for i, (place, person) in enumerate(look_list(table)):
                    self.assertNotIn(person, kept_from(table, kind, i))
                    self.assertEqual(known_at(table, kind, i, person), place)
                    self.assertEqual((keep_way(table, kind, i, [person]), keep_story(table, kind, i, [person])), ("no", None))
                    self.assertEqual(clash(table, kind, [(i, person)]), ((i, person),))

    def test_known_at_the_last_place_that_can_be(self):
        table = (4, (("look", 0), ("meet", 0, 1), ("look", 1), ("tell", 0, 2), ("tell", 1, 2), ("tell", 2, 3)))
        self.assertEqual([known_at(table, "long", 0, person) for person in range(4)], [0, 1, 3, 5])
        self.assertEqual([known_at(table, "long", 1, person) for person in range(4)], [None, 2, 4, 5])
        self.assertEqual([known_at(table, "short", 0, person) for person in range(4)], [0, None, None, None])
        again = (2, (("look", 0), ("look", 1), ("look", 0), ("meet", 0, 1), ("look", 1)))
        self.assertEqual(known_at(again, "long", 0, 1), 3)
        self.assertEqual(known_at(again, "short", 0, 1), None)

    def test_an_own_add_draws_its_adder(self):
        table = (3, (("look", 0), ("add", 2), ("look", 2), ("tell", 0, 1), ("tell", 2, 1)))
        self.assertEqual((kept_from(table, "long", 0), known_at(table, "long", 0, 2)), ([], 2))
        self.assertEqual(kept_from(table, "short", 0), [1, 2])
        self.assertEqual((keep_way(table, "short", 0, [2]), keep_way(table, "short", 0, [1])), ("fork", "delay"))

    def test_adders(self):
        table = (3, (("add", 0), ("look", 1), ("add", 1), ("look", 0), ("meet", 0, 1), ("look", 1)))
        self.assertEqual([add_kept_from(table, "long", entry) for entry in (0, 1)], [[2], [0, 2]])
        self.assertEqual([add_kept_from(table, "short", entry) for entry in (0, 1)], [[1, 2], [0, 2]])
        never = (2, (("look", 0), ("add", 0), ("add", 1), ("meet", 0, 1)))
        for kind in KINDS:
            self.assertEqual([add_kept_from(never, kind, entry) for entry in (0, 1)], [[0, 1], [0, 1]])

    def test_an_entry_in_unlike_heads_at_unlike_places(self):
        table = (4, (("look", 0), ("look", 1), ("add", 2), ("look", 2), ("look", 3), ("meet", 1, 2)))
        self.assertIn((0, 3), audiences(table, "short", 0))
        self.assertIn((0, 2, 3), audiences(table, "short", 0))
        self.assertNotIn((0, 1, 3), audiences(table, "short", 0))
        story = shown_to(table, "short", 0, [3, 0, 3])
        self.assertEqual([hearers_of_entry(table, "short", story, entry) for entry in first_shown(story, 0)
                          if entry in story[3]], [(0, 3)])
        apart = (4, (("look", 0), ("look", 1), ("look", 2), ("add", 3), ("look", 3), ("tell", 0, 1), ("tell", 2, 3)))
        for kind in KINDS:
            for people in audiences(apart, kind, 0):
                story = shown_to(apart, kind, 0, people)
                self.assertIn(people, [hearers_of_entry(apart, kind, story, entry) for entry in first_shown(story, 0)])

    def test_each_wish_alone_but_not_both(self):
        self.assertEqual(keep_way(HEARD, "long", 0, [1]), "delay")
        self.assertEqual(keep_way(HEARD, "long", 1, [0]), "delay")
        self.assertIsNone(keep_all(HEARD, "long", [(0, 1), (1, 0)]))
        self.assertEqual(clash(HEARD, "long", [(1, 0), (0, 1), (1, 0)]), ((0, 1), (1, 0)))
        self.assertEqual(wish_way(HEARD, "short", [(0, 1), (1, 0)]), "fork")

    def test_a_clash_of_three_and_of_four(self):
        star = (3, (("look", 0), ("look", 1), ("look", 2), ("meet", 0, 2), ("meet", 1, 2)))
        path = (4, tuple(("look", p) for p in range(4)) + tuple(("meet", p, p + 1) for p in range(3)))
        for table, wishes in ((star, [(0, 1), (1, 0), (2, 1)]), (path, [(0, 3), (1, 0), (2, 0), (3, 0)])):
            found, _ = profiles(table, "short", tuple(range(1000, 1000 + len(wishes))))
            self.assertEqual(clash(table, "short", wishes[::-1]), tuple(wishes))
            self.assertEqual(word_of(found, by_look(wishes)), "no")
            for at in range(len(wishes)):
                fewer = wishes[:at] + wishes[at + 1:]
                self.assertEqual(wish_way(table, "short", fewer), word_of(found, by_look(fewer)))
                self.assertTrue(fulfils(table, "short", keep_all(table, "short", fewer), by_look(fewer)))
                self.assertIsNone(clash(table, "short", fewer))
        self.assertEqual(clash(star, "short", [(2, 2), (2, 1), (1, 0), (0, 1)]), ((2, 2),))

    def test_a_clash_in_longer_rows(self):
        dice, sizes = chance(27), set()
        for table in middle_tables(28, 120):
            looks = len(look_list(table))
            for kind in KINDS:
                wishes = [(dice.randrange(looks), dice.randrange(table[0])) for _ in range(4)]
                failing = [some for some in subsets(set(wishes)) if keep_all(table, kind, list(some)) is None]
                got = clash(table, kind, wishes)
                self.assertEqual(got, failing[0] if failing else None)
                self.assertEqual(wish_way(table, kind, wishes) == "no", got is not None)
                sizes.add(len(got or ()))
        self.assertLessEqual({0, 1, 2}, sizes)

    def test_who_has_no_look_that_it_leads_to(self):
        for table in itertools.chain(middle_tables(29, 60), large_tables(30, 10)):
            for kind in KINDS:
                lead = leads(table, kind)
                had = final_looks(table, kind)
                for i in range(len(look_list(table))):
                    want = [person for person in range(table[0])
                            if not any(look == i or (i, look) in lead for look in had[person])]
                    self.assertEqual(kept_from(table, kind, i), want, (table, kind, i))


def final_looks(table, kind):
    """The looks that each person has at the end, by following them."""
    had, look = [set() for _ in range(table[0])], 0
    for word, person, *other in table[1]:
        if word == "look":
            had[person].add(look)
            look += 1
        elif kind == "long" and word != "add":
            both = had[person] | had[other[0]]
            had[other[0]] = set(both)
            if word == "meet":
                had[person] = set(both)
    return had


class Errors(unittest.TestCase):

    def test_looks_and_people(self):
        for kind in KINDS:
            for wrong in (-1, 3, 10 ** 12):
                for function in (kept_from, audiences):
                    check_error(self, NoLook, wrong, function, TABLE, kind, wrong)
                for function in (keep_story, keep_way, shown_to):
                    check_error(self, NoLook, wrong, function, TABLE, kind, wrong, [9])
                    check_error(self, NoLook, wrong, function, TABLE, kind, wrong, [])
                    check_error(self, NoPerson, wrong, function, TABLE, kind, 0, [1, 2, wrong, 99])
                check_error(self, NoLook, wrong, known_at, TABLE, kind, wrong, 9)
                check_error(self, NoPerson, wrong, known_at, TABLE, kind, 2, wrong)

    def test_entries(self):
        for entry in (-1, 1, 999, 1000):
            check_error(self, NotAdded, entry, add_kept_from, TABLE, "long", entry)
        check_error(self, NotAdded, 0, add_kept_from, HEARD, "short", 0)

    def test_wishes_in_turn(self):
        for function in (keep_all, wish_way, clash):
            check_error(self, NoLook, 3, function, TABLE, "long", [(0, 1), (3, 9), (-1, 0)])
            check_error(self, NoPerson, 9, function, TABLE, "long", [(0, 1), (2, 9), (-1, 0)])
            check_error(self, NoPerson, -1, function, TABLE, "short", [(0, -1), (7, 1)])
            check_error(self, NoLook, -1, function, TABLE, "short", [(0, 0), (1, 1), (2, 2), (-1, -1)])

    def test_without_looks(self):
        table = (2, (("add", 0), ("meet", 0, 1)))
        check_error(self, NoLook, 0, kept_from, table, "long", 0)
        check_error(self, NoLook, 0, keep_way, table, "long", 0, [])


class Bounds(unittest.TestCase):

    def test_at_the_bounds(self):
        dice = chance(31)
        for table in large_tables(32, 3):
            people, looks = list(range(table[0])), len(look_list(table))
            for kind in KINDS:
                for i in range(looks):
                    kept = kept_from(table, kind, i)
                    self.assertEqual(kept, [person for person in people if keep_way(table, kind, i, [person]) != "no"])
                    self.assertEqual(kept, [person for person in people if known_at(table, kind, i, person) is None])
                    self.assertTrue(fulfils(table, kind, keep_story(table, kind, i, kept), {i: set(kept)}))
                    self.check_audiences(table, kind, i, kept, dice)
                wishes = [(dice.randrange(looks), dice.choice(people)) for _ in range(4)]
                story = keep_all(table, kind, wishes)
                if story is None:
                    self.assertEqual((wish_way(table, kind, wishes), clash(table, kind, wishes) is None), ("no", False))
                else:
                    self.assertTrue(fulfils(table, kind, story, by_look(wishes)))

    def check_audiences(self, table, kind, i, kept, dice):
        found = audiences(table, kind, i)
        least = tuple(person for person in range(table[0]) if person not in kept)
        self.assertIn(least, found)
        for people in [dice.choice(found), least]:
            self.assertLessEqual(set(least), set(people))
            story = shown_to(table, kind, i, people)
            self.assertIn(people, [hearers_of_entry(table, kind, story, entry) for entry in first_shown(story, i)])

    def test_a_delay_has_no_unlike_heads(self):
        for table in large_tables(33, 4):
            for kind in KINDS:
                for i in range(len(look_list(table))):
                    for people in subsets(kept_from(table, kind, i))[:12]:
                        self.assertIn(keep_way(table, kind, i, people), ("delay", "fork"))
                        story = keep_story(table, kind, i, people)
                        if not any(unlike(one, other) for one, other in itertools.combinations(story, 2)):
                            self.assertEqual(keep_way(table, kind, i, people), "delay")


if __name__ == "__main__":
    unittest.main()
