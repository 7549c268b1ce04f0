"""The examples of the document, as they stand there."""

import unittest

from hiddenforks import branches, data, desk, errors, faults, forks, hall, keeping, more, plans, session, texts

DATA = """
>>> table = (3, (("look", 0), ("look", 1), ("meet", 0, 2), ("add", 2), ("look", 2), ("meet", 1, 2)))
>>> is_timetable(table), looks(table), adds(table), is_story(table, ((), (1000,), (0,)))
(True, [(0, 0), (1, 1), (4, 2)], [(3, 2)], True)
>>> is_event(3, ("meet", 1, 1)), begins((1,), (1, 0)), comparable((1, 0), (0, 1)), is_story(table, ((0,), (), ()))
(False, True, False, False)
"""

HALL = """
>>> h = Hall(3, "long")
>>> h.look(0, (1000,)), h.look(1, (1001,)), h.meet(0, 2), h.knows(2), h.meet(1, 2), h.noticed(), h
('fine', 'fine', 'fine', (1000,), 'unlike', [1, 2], Hall(3 people, 2 noticed))
>>> h.add(2), h.look(2, (1000,)), h.do(("look", 2), (1000, 0)), h.adders()
(0, 'missing', 'fine', [2])
>>> h.look(0, (1000, 1))
raises NotAdded(entry=1)
>>> noticed_at(table, "short", ((1000,), (1001,), (0,))), is_unseen(table, "short", ((1000,), (), (1000, 0)))
((5, (1, 2)), True)
"""

FORKS = """
>>> hidden_pairs(table, "long"), alikes(table, "long"), leads(table, "long"), hidden_pairs(table, "short")
([], [(0, 1), (0, 2), (1, 2)], [(0, 2), (1, 2)], [(0, 1), (0, 2)])
>>> seen_at(table, "long", 0, 1), paper(table, "short", 1, 2), shows_seen(table, "short", 1, 2, [])
(5, (('alike', 1, 2),), False)
>>> is_unseen(table, "short", fork(table, "short", 0, 1)), fork(table, "long", 0, 1)
(True, None)
>>> drawn = (5, (("look", 0), ("look", 1), ("add", 2), ("look", 2), ("tell", 2, 3), ("tell", 0, 3), ("tell", 2, 4), ("tell", 1, 4)))
>>> hidden(drawn, "long", 0, 1), leads(drawn, "long"), seen_at(drawn, "long", 0, 1)
(False, [(0, 2), (1, 2)], 7)
"""

FAULTS = """
>>> nets(table, "long", 0, 1), circles(table, "long", 0, 1), least_lost(table, "long", 0, 1), least_liars(table, "long", 0, 1)
([(2, 5)], [(2,)], (2,), (2,))
>>> remaining(table, [2], []), look_left(table, [0], 1), frontier(table, "long", 0, 1), faults(table, "long", 0, 1, 1)
((3, (('look', 0), ('look', 1), ('add', 2))), 0, [(0, 1), (1, 0)], ((2,), ()))
>>> fragile(table, "long", 0), fragile(table, "long", 1), nets(drawn, "long", 0, 1), circles(drawn, "long", 0, 1)
([], [(0, 1), (0, 2), (1, 2)], [(4, 5, 6, 7)], [(2, 3, 4)])
>>> twice = (2, (("look", 0), ("look", 1), ("meet", 0, 1), ("meet", 0, 1)))
>>> nets(twice, "short", 0, 1), least_lost(twice, "short", 0, 1), lost_paper(twice, "short", 0, 1), least_liars(twice, "short", 0, 1)
([(2,), (3,)], (2, 3), ((2,), (3,)), None)
>>> shows_least(table, "long", 0, 1, [5], ((2, 5),)), shows_least(table, "long", 0, 1, [2, 5], ((2, 5),))
(True, False)
>>> remaining(table, [], [3])
raises NoMeeting(index=3)
"""

KEEPING = """
>>> kept_from(table, "long", 1), kept_from(table, "short", 0), add_kept_from(table, "short", 0), known_at(table, "long", 0, 1)
([0], [1, 2], [0, 1], 5)
>>> keep_way(table, "long", 0, [1]), keep_way(table, "short", 0, [2]), keep_way(table, "short", 0, [1])
('no', 'fork', 'delay')
>>> audiences(table, "long", 1), audiences(table, "short", 0), shown_to(table, "short", 0, [0, 1])
([(1, 2)], [(0,), (0, 1, 2), (0, 2)], None)
>>> heard = (4, (("look", 0), ("look", 1), ("tell", 0, 2), ("tell", 1, 2)))
>>> kept_from(heard, "long", 0), clash(heard, "long", [(0, 1)]), clash(heard, "long", [(1, 3), (1, 0), (0, 1)]), wish_way(heard, "long", [(0, 1), (1, 3)])
([1, 3], None, ((0, 1), (1, 0)), 'no')
>>> is_unseen(heard, "long", keep_all(heard, "long", [(1, 0), (1, 3)])), keep_all(heard, "short", [(0, 1), (1, 0)]) == None
(True, False)
"""

BRANCHES = """
>>> line = (5, (("look", 0), ("add", 2), ("add", 3), ("look", 2), ("look", 3), ("look", 1), ("look", 4), ("meet", 0, 1), ("meet", 1, 2), ("meet", 2, 3), ("meet", 3, 4)))
>>> hidden(line, "short", 0, 4), hidden(line, "short", 3, 4), together(line, "short", [(0, 4), (3, 4)]), knot(line, "short", [(0, 4), (3, 4)])
(True, True, False, (0, 1, 2, 3, 4))
>>> most_pairs(line, "short"), most_branches(line, "short"), course(line, "short")
(((0, 1), (0, 2), (0, 4), (1, 4)), (0, 1, 4), [1, 1, 1, 2, 3, 4, 5, 4, 4, 3, 3])
>>> is_unseen(line, "short", story_of(line, "short", [(0, 4), (1, 4)])), story_of(line, "short", [(0, 4)], [(0, 1), (1, 4)])
(True, None)
>>> spare(table, "long"), least_same(table, "long"), spare(line, "short")
([], (2, 5), [])
"""

PLANS = """
>>> known_by(3, "meet", ((0, 1), (1, 2))), known_by(3, "tell", ((0, 1), (1, 2)))
([[0, 1], [0, 1, 2], [0, 1, 2]], [[0], [0, 1], [0, 1, 2]])
>>> unknown_pairs(4, "meet", ((1, 2), (0, 1), (2, 3))), best_order(4, "meet", ((1, 2), (0, 1), (2, 3)))
([(0, 3)], (0, ((0, 1), (1, 2), (2, 3))))
>>> against(4, "meet", ((1, 2), (0, 1), (2, 3)), "somebody"), against(3, "meet", ((0, 1), (1, 2)), "everybody")
((0, 3), ((0, 2), 0))
>>> ring, row = ((0, 1), (0, 3), (1, 2), (2, 3)), ((0, 1), (1, 2), (2, 3))
>>> fewest_meetings(4, "meet", ring, "everybody"), fewest_meetings(4, "meet", row, "everybody"), fewest_meetings(4, "tell", row, "everybody")
(4, 5, None)
>>> fewest_meetings(4, "tell", row, "somebody"), reaches(4, "meet", ((0, 1), (2, 3), (1, 2), (0, 3)), "everybody"), fewest_rounds(6), fewest_rounds(5)
(3, True, 3, 4)
>>> weak_meetings(3, "meet", ((0, 1), (1, 2), (0, 2))), weak_people(4, "meet", ring), weak_people(3, "meet", ((0, 1), (1, 2)))
([], [], [1])
"""

MORE = """
>>> far = (4, (("look", 0), ("add", 1), ("look", 1), ("look", 3), ("tell", 1, 2), ("tell", 3, 2)))
>>> hidden_pairs(far, "long"), reach(far, "long", 0), reach(far, "long", 2), mend(far, "long", [(0, 2)], [("meet", 0, 1)])
([(0, 1), (0, 2)], [0], [2, 3], (('meet', 0, 1),))
>>> apart = (4, (("look", 0), ("look", 1), ("look", 2), ("look", 3)))
>>> chain = [("meet", 0, 1), ("meet", 1, 2), ("meet", 2, 3)]
>>> mend(apart, "long", [(0, 3)], chain), mend(apart, "short", [(0, 2)], chain), unmended(apart, "long", [(0, 2), (0, 1)], chain[:1])
((('meet', 0, 1), ('meet', 1, 2), ('meet', 2, 3)), None, [(0, 2)])
>>> first_unlike(far, behind(far, [("meet", 0, 1)]), "long"), is_unseen(far, "long", unmended_story(far, "long", [(0, 2)], []))
((0, 1), True)
"""

TEXTS = r"""
>>> timetable_text(far), story_in("1000; -; 1000,0"), story_text(()), timetable_in("people 2\nmeet 0 1")
('people 4\nlook 0\nadd 1\nlook 1\nlook 3\ntell 1 2\ntell 3 2', ((1000,), (), (1000, 0)), 'none', (2, (('meet', 0, 1),)))
>>> timetable_in("people 2\nlook 0\nmeet 1 1")
raises BadText(line=2)
"""

DESK = r"""
>>> answers(timetable_text(far) + "\n\nlong\npairs\nmend 0+2 by meet 0 1\nmeet 0 1\npairs\nseen 0 2\nnotice 1000; 0; 0\nhidden 0 9")
['0+1 0+2', 'meet 0 1', 'done', '-', '6', '6 0 1', 'refused NoLook']
"""

SESSION = """
>>> s = Session(far, "long")
>>> s.put(("meet", 0, 1)), s.pairs(), s.undo(), s.many(), s.pairs(), s.drop(1), s.mended([(0, 2)], [("meet", 0, 1)])
(None, [], None, 0, [(0, 1), (0, 2)], None, None)
"""


def told(line, names):
    """What the document writes below this line: the value, or the error."""
    try:
        return repr(eval(line, names))
    except (ValueError, LookupError, RuntimeError) as error:
        values = ", ".join(f"{name}={value!r}" for name, value in vars(error).items())
        return f"raises {type(error).__name__}({values})"


class Examples(unittest.TestCase):

    def setUp(self):
        self.names = {}
        for module in (data, errors, hall, forks, faults, keeping, branches, plans, more, texts, desk, session):
            self.names.update(vars(module))

    def run_examples(self, text):
        lines = text.strip().split("\n")
        tried = 0
        for at, line in enumerate(lines):
            if at + 1 < len(lines) and line.startswith(">>> ") and not lines[at + 1].startswith(">>> "):
                self.assertEqual(told(line[4:], self.names), lines[at + 1], line)
                tried += 1
            elif line.startswith(">>> "):
                exec(line[4:], self.names)
        return tried

    def test_data(self):
        self.assertEqual(self.run_examples(DATA), 2)

    def test_hall(self):
        self.run_examples(DATA)
        self.assertEqual(self.run_examples(HALL), 4)

    def test_forks(self):
        self.run_examples(DATA)
        self.assertEqual(self.run_examples(FORKS), 4)

    def test_faults(self):
        self.run_examples(DATA + FORKS)
        self.assertEqual(self.run_examples(FAULTS), 6)

    def test_keeping(self):
        self.run_examples(DATA)
        self.assertEqual(self.run_examples(KEEPING), 5)

    def test_branches(self):
        self.run_examples(DATA)
        self.assertEqual(self.run_examples(BRANCHES), 4)

    def test_plans(self):
        self.assertEqual(self.run_examples(PLANS), 6)

    def test_more(self):
        self.assertEqual(self.run_examples(MORE), 3)

    def test_texts(self):
        self.run_examples(MORE)
        self.assertEqual(self.run_examples(TEXTS), 2)

    def test_desk(self):
        self.run_examples(MORE)
        self.assertEqual(self.run_examples(DESK), 1)

    def test_session(self):
        self.run_examples(MORE)
        self.assertEqual(self.run_examples(SESSION), 1)


if __name__ == "__main__":
    unittest.main()
