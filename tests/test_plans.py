"""Point [10]: plans of meetings. Guarantee (e) of point [1]."""

import itertools
import unittest

from hiddenforks.forks import hidden_pairs
from hiddenforks.plans import (against, best_order, fewest_meetings, fewest_rounds, known_by, meeting_plan, reaches,
                               rounds_plan, shows_rounds, unknown_pairs, weak_meetings, weak_people)

from support import chance, junk, listed, nested

WAYS = ("meet", "tell")
GOALS = ("somebody", "everybody")
RING = ((0, 1), (0, 3), (1, 2), (2, 3))
ROW = ((0, 1), (1, 2), (2, 3))


def possible(people, way):
    """The pairs that can stand in a plan of this way."""
    return list((itertools.combinations if way == "meet" else itertools.permutations)(range(people), 2))


def got_by(people, way, plan):
    """The set of looks that each person gets, by following each look alone."""
    hearers = []
    for look in range(people):
        who = {look}
        for p, q in plan:
            if p in who or way == "meet" and q in who:
                who |= {p, q}
        hearers.append(who)
    return [{look for look in range(people) if person in hearers[look]} for person in range(people)]


def told_unknown(people, way, plan):
    got = got_by(people, way, plan)
    return [(i, j) for i, j in itertools.combinations(range(people), 2) if not any({i, j} <= seen for seen in got)]


def does_it(people, way, plan, goal):
    if goal == "somebody":
        return not told_unknown(people, way, plan)
    return all(seen == set(range(people)) for seen in got_by(people, way, plan))


def after(known, way, pair):
    """Who has got what, as a tuple of sets, behind one more meeting or tell."""
    p, q = pair
    both = known[p] | known[q]
    return tuple(both if one == q or one == p and way == "meet" else seen for one, seen in enumerate(known))


def tried_fewest(people, way, graph, goal):
    """How few do it, by trying all plans, shorter ones first; None if none does."""
    def done(known):
        return all(any({i, j} <= seen for seen in known) if goal == "somebody" else all({i, j} <= seen for seen in known)
                   for i, j in itertools.combinations(range(people), 2))

    states, seen, many = {tuple(frozenset([p]) for p in range(people))}, set(), 0
    while states:
        if any(done(known) for known in states):
            return many
        seen |= states
        states = {after(known, way, pair) for known in states for pair in graph} - seen
        many += 1
    return None


def random_plan(dice, people, way, many):
    return tuple(dice.choice(possible(people, way)) for _ in range(many)) if people > 1 else ()


def plans(seed, many, most_people=5, most_pairs=8):
    dice = chance(seed)
    for _ in range(many):
        people, way = dice.randrange(1, most_people + 1), dice.choice(WAYS)
        yield people, way, random_plan(dice, people, way, dice.randrange(most_pairs + 1))


def meetings_at_once(people):
    """All rounds: sets of pairs in which nobody is twice, but not the empty one."""
    pairs = possible(people, "meet")
    return [some for size in range(1, people // 2 + 1) for some in itertools.combinations(pairs, size)
            if len({person for pair in some for person in pair}) == 2 * size]


class Known(unittest.TestCase):

    def test_who_gets_what(self):
        for people, way, plan in plans(61, 300):
            got = got_by(people, way, plan)
            self.assertEqual(known_by(people, way, plan), [sorted(seen) for seen in got], (people, way, plan))
            self.assertEqual(unknown_pairs(people, way, plan), told_unknown(people, way, plan))

    def test_each_has_a_list_of_its_own(self):
        for way in WAYS:
            for plan in ((), ((0, 1),), ((0, 1), (1, 2), (0, 1)), ((0, 1), (0, 1))):
                known = known_by(3, way, plan)
                for one, other in itertools.combinations(known, 2):
                    self.assertIsNot(one, other)
                known[0].append(7)
                self.assertEqual([7 in seen for seen in known], [True, False, False])
                self.assertNotEqual(known_by(3, way, plan), known)

    def test_goals(self):
        said = {goal: [0, 0] for goal in GOALS}
        for people, way, plan in plans(62, 400, 4, 9):
            for goal in GOALS:
                want = does_it(people, way, plan, goal)
                said[goal][want] += 1
                self.assertIs(reaches(people, way, plan, goal), want, (people, way, plan, goal))
                self.assertEqual(against(people, way, plan, goal) is None, want)
        self.assertGreater(min(said["somebody"] + said["everybody"]), 40)

    def test_the_least_pair_against_it(self):
        for people, way, plan in plans(63, 200):
            left = told_unknown(people, way, plan)
            self.assertEqual(against(people, way, plan, "somebody"), left[0] if left else None)
            got = got_by(people, way, plan)
            left = [(pair, r) for pair in itertools.combinations(range(people), 2) for r in range(people)
                    if not set(pair) <= got[r]]
            self.assertEqual(against(people, way, plan, "everybody"), left[0] if left else None)
        self.assertEqual(against(3, "tell", ((0, 1), (2, 1)), "everybody"), ((0, 1), 0))
        self.assertEqual(against(3, "meet", ((0, 1), (1, 2), (0, 1)), "everybody"), None)
        self.assertEqual(against(3, "tell", (), "somebody"), (0, 1))

    def test_as_the_timetable_with_these_meetings(self):
        for people, way, plan in plans(64, 120, 6, 8):
            events = [("look", p) for p in range(people)] + [(way, p, q) for p, q in plan]
            got = got_by(people, way, plan)
            unknown = unknown_pairs(people, way, plan)
            self.assertEqual(hidden_pairs((people, tuple(events)), "long"), unknown, (people, way, plan))
            self.assertEqual([pair for pair in itertools.combinations(range(people), 2)
                              if not any(set(pair) <= seen for seen in got)], unknown)

    def test_one_person(self):
        for way in WAYS:
            self.assertEqual((known_by(1, way, ()), unknown_pairs(1, way, ())), ([[0]], []))
            for goal in GOALS:
                self.assertEqual((reaches(1, way, (), goal), against(1, way, (), goal)), (True, None))
                self.assertEqual((fewest_meetings(1, way, (), goal), meeting_plan(1, way, (), goal)), (0, ()))
            self.assertEqual((best_order(1, way, ()), weak_meetings(1, way, ()), weak_people(1, way, ())), ((0, ()), [], []))

    def test_a_plan_without_pairs(self):
        for way in WAYS:
            self.assertEqual(known_by(3, way, ()), [[0], [1], [2]])
            self.assertEqual(unknown_pairs(3, way, ()), [(0, 1), (0, 2), (1, 2)])
            self.assertEqual([reaches(3, way, (), goal) for goal in GOALS], [False, False])
            self.assertEqual((best_order(3, way, ()), weak_meetings(3, way, ()), weak_people(3, way, ())), ((3, ()), [], []))


class Fewest(unittest.TestCase):

    def check_plan(self, people, way, graph, goal, few):
        self.assertEqual(fewest_meetings(people, way, graph, goal), few, (people, way, graph, goal))
        plan = meeting_plan(people, way, graph, goal)
        self.assertEqual(plan is None, few is None, (people, way, graph, goal))
        if plan is not None:
            self.assertIs(type(plan), tuple)
            self.assertTrue(all(type(pair) is tuple and pair in graph for pair in plan), (graph, plan))
            self.assertEqual(len(plan), few)
            self.assertTrue(does_it(people, way, plan, goal), (people, way, graph, goal, plan))

    def test_by_trying_all_short_plans_of_all_graphs(self):
        for people in (1, 2, 3, 4):
            for way in WAYS:
                pairs = possible(people, way)
                graphs = [graph for size in range(len(pairs) + 1) for graph in itertools.combinations(pairs, size)]
                for graph in graphs if len(graphs) <= 64 else chance(65).sample(graphs, 120):
                    for goal in GOALS:
                        self.check_plan(people, way, graph, goal, tried_fewest(people, way, graph, goal))

    def test_by_trying_with_five_people(self):
        dice = chance(66)
        for way, size in (("meet", 4), ("meet", 5), ("meet", 6), ("tell", 5), ("tell", 6)):
            graph = tuple(sorted(dice.sample(possible(5, way), size)))
            for goal in GOALS:
                if way == "meet" or goal == "somebody" or size == 5:
                    self.check_plan(5, way, graph, goal, tried_fewest(5, way, graph, goal))
        ring = ((0, 1), (1, 2), (2, 3), (3, 4), (4, 0))
        self.check_plan(5, "tell", ring, "everybody", tried_fewest(5, "tell", ring, "everybody"))
        self.check_plan(5, "meet", tuple(sorted((min(pair), max(pair)) for pair in ring)), "everybody", 7)

    def test_by_the_words_of_the_document(self):
        dice, met, told = chance(67), set(), set()
        for _ in range(250):
            people = dice.randrange(4, 11)
            pairs = possible(people, "meet")
            graph = tuple(sorted(dice.sample(pairs, dice.randrange(people - 2, min(len(pairs), 2 * people)))))
            whole = joined_from(graph + tuple((q, p) for p, q in graph), 0) == set(range(people))
            ring = any(len({b for b in range(people) if {(min(a, b), max(a, b)), (min(b, c), max(b, c))} <= set(graph)}) > 1
                       for a, c in pairs)
            self.check_plan(people, "meet", graph, "somebody", people - 1 if whole else None)
            self.check_plan(people, "meet", graph, "everybody", 2 * people - (4 if ring else 3) if whole else None)
            met.add((whole, ring))
            pairs = possible(people, "tell")
            graph = tuple(sorted(dice.sample(pairs, dice.randrange(people - 1, 3 * people))))
            ends = [joined_from(graph, p) for p in range(people)]
            root = any(all(p in seen for seen in ends) for p in range(people))
            strong = all(seen == set(range(people)) for seen in ends)
            self.check_plan(people, "tell", graph, "somebody", people - 1 if root else None)
            self.check_plan(people, "tell", graph, "everybody", 2 * people - 2 if strong else None)
            told.add((root, strong))
        self.assertEqual((len(met), len(told)), (4, 3))

    def test_small_and_known_ones(self):
        self.check_plan(2, "meet", ((0, 1),), "everybody", 1)
        self.check_plan(2, "tell", ((0, 1), (1, 0)), "everybody", 2)
        self.check_plan(2, "tell", ((1, 0),), "everybody", None)
        self.check_plan(2, "tell", ((1, 0),), "somebody", 1)
        self.check_plan(2, "meet", (), "somebody", None)
        self.check_plan(3, "meet", ((0, 1), (0, 2), (1, 2)), "everybody", 3)
        self.check_plan(4, "meet", RING, "everybody", 4)
        self.check_plan(4, "meet", ROW, "everybody", 5)
        self.check_plan(4, "meet", ROW[:2], "everybody", None)
        self.check_plan(3, "tell", ((0, 1), (0, 2)), "somebody", None)
        for people in range(4, 13):
            graph = tuple(possible(people, "meet"))
            self.check_plan(people, "meet", graph, "everybody", 2 * people - 4)
            self.check_plan(people, "meet", tuple((0, p) for p in range(1, people)), "everybody", 2 * people - 3)
            self.check_plan(people, "tell", tuple(possible(people, "tell")), "everybody", 2 * people - 2)

    def test_a_graph_that_does_not_connect_all_but_has_a_ring(self):
        for goal in GOALS:
            self.check_plan(5, "meet", RING, goal, None)
            self.check_plan(6, "meet", RING + ((4, 5),), goal, None)


def joined_from(graph, person):
    """Everybody who is reached from this person by steps of the graph."""
    reached, before = {person}, set()
    while reached != before:
        before = set(reached)
        reached |= {q for p, q in graph if p in reached}
    return reached


class Rounds(unittest.TestCase):

    def test_how_few_by_trying(self):
        for people in range(1, 7):
            rounds, many = meetings_at_once(people), 0
            states = {tuple(frozenset([p]) for p in range(people))}
            while not any(all(len(seen) == people for seen in known) for known in states):
                states = {self.behind(known, some) for known in states for some in rounds}
                many += 1
            self.assertEqual(fewest_rounds(people), many, people)

    def behind(self, known, some):
        for pair in some:
            known = after(known, "meet", pair)
        return known

    def test_how_few(self):
        want = {1: 0, 2: 1, 3: 3, 4: 2, 5: 4, 6: 3, 7: 4, 8: 3, 9: 5, 10: 4, 11: 5, 12: 4, 16: 4, 17: 6, 18: 5}
        self.assertEqual({people: fewest_rounds(people) for people in want}, want)

    def test_the_plan(self):
        for people in range(1, 34):
            rounds = rounds_plan(people)
            self.assertIs(type(rounds), tuple)
            self.assertEqual(len(rounds), fewest_rounds(people))
            self.assertIs(shows_rounds(people, rounds), True, people)
            for some in rounds:
                self.assertEqual(some, tuple(sorted(some)))
                there = [person for pair in some for person in pair]
                self.assertEqual((len(set(there)), type(some)), (len(there), tuple))
                self.assertTrue(some and all(type(pair) is tuple and 0 <= pair[0] < pair[1] < people for pair in some))
            self.assertTrue(does_it(people, "meet", [pair for some in rounds for pair in some], "everybody"))

    def test_which_show_it(self):
        for people in (2, 3, 4):
            rounds, said = meetings_at_once(people), [0, 0]
            for thing in itertools.product(rounds, repeat=fewest_rounds(people)):
                want = does_it(people, "meet", [pair for some in thing for pair in some], "everybody")
                self.assertIs(shows_rounds(people, thing), want, (people, thing))
                said[want] += 1
            self.assertGreater(said[True], 0)

    def test_what_does_not(self):
        right = (((0, 1), (2, 3)), ((0, 2), (1, 3)))
        self.assertIs(shows_rounds(4, right), True)
        for thing in (right[:1], right + right[:1], listed(right), [right[0], right[1]], (right[0], list(right[1])),
                      (right[0], ([0, 2], (1, 3))), (((2, 3), (0, 1)), right[1]), (((1, 0), (2, 3)), right[1]),
                      (((0, 1), (2, 3)), ((0, 2), (1, 2), (1, 3))), (((0, 1), (0, 1), (2, 3)), right[1]),
                      (((False, True), (2, 3)), right[1]), (right[0], right[0]), (right[0], ()), ((), right[0]),
                      (((0, 1), (2, 3), (4, 5)), right[1]), (((-1, 1), (2, 3)), right[1]), (((0, 0), (2, 3)), right[1]),
                      (((0, 1), (2, 4)), right[1]), (((-1, 2), (0, 1)), right[1]), (((0, 1), (2, -1)), right[1]),
                      (((0, 1, 2), (2, 3)), right[1]), (((0,), (2, 3)), right[1]), (right[0], None), None, (None, None),
                      (((0, 1), (2, 3)), ((0, 2), ("1", 3))), ((((0, 1), (2, 3)),), right[1])):
            self.assertIs(shows_rounds(4, thing), False, thing)
        self.assertIs(shows_rounds(3, (((0, 1),), ((1, 2),), ((0, 1),))), True)
        self.assertIs(shows_rounds(3, (((0, 1),), ((1, 2),), ((1, 2),))), False)
        for thing in junk() + [nested(11, (0, 1), tuple), nested(12, (), tuple)]:
            self.assertIs(shows_rounds(4, thing), False, thing)
            self.assertIs(shows_rounds(1, thing), type(thing) is tuple and thing == (), thing)
        self.assertIs(shows_rounds(1, ()), True)
        self.assertIs(shows_rounds(2, (((0, 1),),)), True)
        self.assertIs(shows_rounds(2, ((0, 1),)), False)


class Orders(unittest.TestCase):

    def test_by_trying_all_orders(self):
        better = 0
        for people, way, plan in plans(68, 700, 5, 5):
            tried = sorted((len(told_unknown(people, way, order)), order) for order in itertools.permutations(plan))
            got = best_order(people, way, plan)
            self.assertEqual(got, tried[0], (people, way, plan))
            self.assertEqual(sorted(got[1]), sorted(plan))
            better += got[0] < len(told_unknown(people, way, plan))
        self.assertGreater(better, 10)

    def test_pairs_that_come_more_than_once(self):
        self.assertEqual(best_order(3, "meet", ((1, 2), (0, 1), (1, 2))), (0, ((0, 1), (1, 2), (1, 2))))
        self.assertEqual(best_order(4, "tell", ((0, 1), (2, 3), (1, 2))), (0, ((0, 1), (1, 2), (2, 3))))
        self.assertEqual(best_order(4, "tell", ((3, 2), (2, 1), (1, 0))), (0, ((3, 2), (2, 1), (1, 0))))

    def test_at_the_bound(self):
        dice = chance(69)
        for way in WAYS:
            for _ in range(2):
                plan = tuple(dice.sample(possible(6, way), 6))
                many, order = best_order(6, way, plan)
                self.assertEqual((sorted(order), len(told_unknown(6, way, order))), (sorted(plan), many))
                self.assertEqual(min((len(told_unknown(6, way, one)), one) for one in itertools.permutations(plan)),
                                 (many, order))

    def test_weak_meetings(self):
        some = 0
        for people, way, plan in plans(70, 250, 6, 9):
            before = set(told_unknown(people, way, plan))
            want = [at for at in range(len(plan)) if set(told_unknown(people, way, plan[:at] + plan[at + 1:])) - before]
            self.assertEqual(weak_meetings(people, way, plan), want, (people, way, plan))
            some += 0 < len(want) < len(plan)
        self.assertGreater(some, 50)

    def test_weak_people(self):
        some = 0
        for people, way, plan in plans(71, 250, 6, 9):
            before = set(told_unknown(people, way, plan))
            want = []
            for person in range(people):
                left = told_unknown(people, way, [pair for pair in plan if person not in pair])
                if [pair for pair in left if pair not in before and person not in pair]:
                    want.append(person)
            self.assertEqual(weak_people(people, way, plan), want, (people, way, plan))
            some += 0 < len(want) < people
        self.assertGreater(some, 50)

    def test_one_at_an_end_is_not_weak(self):
        self.assertEqual((weak_meetings(3, "meet", ((0, 1),)), weak_people(3, "meet", ((0, 1),))), ([0], []))
        self.assertEqual((weak_meetings(3, "tell", ((0, 1), (1, 2))), weak_people(3, "tell", ((0, 1), (1, 2)))), ([0, 1], [1]))

    def test_at_the_bounds(self):
        dice = chance(72)
        for way in WAYS:
            plan = random_plan(dice, 10, way, 30)
            self.assertEqual(unknown_pairs(10, way, plan), told_unknown(10, way, plan))
            self.assertEqual(weak_meetings(10, way, plan),
                             [at for at in range(30) if told_unknown(10, way, plan[:at] + plan[at + 1:])
                              != told_unknown(10, way, plan)])
            self.assertLessEqual(set(weak_people(10, way, plan)), set(range(10)))
            for goal in GOALS:
                self.assertEqual(reaches(10, way, plan, goal), does_it(10, way, plan, goal))


if __name__ == "__main__":
    unittest.main()
