"""The examples of the document, as they stand there."""

import unittest

from hiddenforks import data, errors, forks, hall

DATA = """
>>> table = (3, (("look", 0), ("look", 1), ("meet", 0, 2), ("add", 2), ("look", 2), ("meet", 1, 2)))
>>> is_timetable(table), looks(table), adds(table), is_story(table, ((), (1000,), (0,)))
(True, [(0, 0), (1, 1), (4, 2)], [(3, 2)], True)
>>> is_event(3, ("meet", 1, 1)), begins((1,), (1, 0)), comparable((1, 0), (0, 1)), is_story(table, ((0,), (), ()))
(False, True, False, False)
"""

HALL = """
>>> h = Hall(3, "long")
>>> h.look(0, (1000,)), h.look(1, (1001,)), h.meet(0, 2), h.knows(2), h.meet(1, 2), h.noticed(), h
('fine', 'fine', 'fine', (1000,), 'unlike', [1, 2], Hall(3 people, 2 noticed))
>>> h.add(2), h.look(2, (1000,)), h.do(("look", 2), (1000, 0)), h.adders()
(0, 'missing', 'fine', [2])
>>> h.look(0, (1000, 1))
raises NotAdded(entry=1)
>>> noticed_at(table, "short", ((1000,), (1001,), (0,))), is_unseen(table, "short", ((1000,), (), (1000, 0)))
((5, (1, 2)), True)
"""

FORKS = """
>>> hidden_pairs(table, "long"), alikes(table, "long"), leads(table, "long"), hidden_pairs(table, "short")
([], [(0, 1), (0, 2), (1, 2)], [(0, 2), (1, 2)], [(0, 1), (0, 2)])
>>> seen_at(table, "long", 0, 1), paper(table, "short", 1, 2), shows_seen(table, "short", 1, 2, [])
(5, (('alike', 1, 2),), False)
>>> is_unseen(table, "short", fork(table, "short", 0, 1)), fork(table, "long", 0, 1)
(True, None)
>>> drawn = (5, (("look", 0), ("look", 1), ("add", 2), ("look", 2), ("tell", 2, 3), ("tell", 0, 3), ("tell", 2, 4), ("tell", 1, 4)))
>>> hidden(drawn, "long", 0, 1), leads(drawn, "long"), seen_at(drawn, "long", 0, 1)
(False, [(0, 2), (1, 2)], 7)
"""


def told(line, names):
    """What the document writes below this line: the value, or the error."""
    try:
        return repr(eval(line, names))
    except (ValueError, LookupError, RuntimeError) as error:
        values = ", ".join(f"{name}={value!r}" for name, value in vars(error).items())
        return f"raises {type(error).__name__}({values})"


class Examples(unittest.TestCase):

    def setUp(self):
        self.names = {}
        for module in (data, errors, hall, forks):
            self.names.update(vars(module))

    def run_examples(self, text):
        lines = text.strip().split("\n")
        tried = 0
        for at, line in enumerate(lines):
            if at + 1 < len(lines) and line.startswith(">>> ") and not lines[at + 1].startswith(">>> "):
                self.assertEqual(told(line[4:], self.names), lines[at + 1], line)
                tried += 1
            elif line.startswith(">>> "):
                exec(line[4:], self.names)
        return tried

    def test_data(self):
        self.assertEqual(self.run_examples(DATA), 2)

    def test_hall(self):
        self.run_examples(DATA)
        self.assertEqual(self.run_examples(HALL), 4)

    def test_forks(self):
        self.run_examples(DATA)
        self.assertEqual(self.run_examples(FORKS), 4)


if __name__ == "__main__":
    unittest.main()
