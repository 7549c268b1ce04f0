"""Points [15] and [2]: the error classes."""

import inspect
import unittest

from hiddenforks import errors

CLASSES = {
    "BadStory": (ValueError, ()), "Alone": (ValueError, ("person",)), "BadText": (ValueError, ("line",)),
    "BadLine": (ValueError, ("number",)), "NoPerson": (LookupError, ("number",)),
    "NoLook": (LookupError, ("number",)), "NoEvent": (LookupError, ("number",)),
    "NoMeeting": (LookupError, ("index",)), "NotAdded": (LookupError, ("entry",)),
    "NothingDone": (RuntimeError, ()),
}


class Errors(unittest.TestCase):

    def test_all_are_there_and_no_others(self):
        found = {name for name, value in vars(errors).items() if inspect.isclass(value)}
        self.assertEqual(found, set(CLASSES))

    def test_each_stands_directly_under_its_built_in_class(self):
        for name, (base, _) in CLASSES.items():
            made = getattr(errors, name)
            self.assertEqual(made.__bases__, (base,), name)
            self.assertEqual(made.__module__, "hiddenforks.errors", name)

    def test_values_by_position_and_by_name(self):
        for name, (_, values) in CLASSES.items():
            made = getattr(errors, name)
            for at, error in enumerate((made(*[7 for _ in values]), made(**{value: 7 for value in values}))):
                self.assertEqual(vars(error), {value: 7 for value in values}, (name, at))

    def test_a_value_is_needed_for_each_name(self):
        for name, (_, values) in CLASSES.items():
            if values:
                with self.assertRaises(TypeError, msg=name):
                    getattr(errors, name)()
            with self.assertRaises(TypeError, msg=name):
                getattr(errors, name)(no_such_name=1)

    def test_values_are_kept_as_tuples_at_every_depth(self):
        for name, (_, values) in CLASSES.items():
            for value in values:
                given = [1, (2, [3, []]), "text", None]
                error = getattr(errors, name)(given)
                self.assertEqual(getattr(error, value), (1, (2, (3, ())), "text", None), name)
                self.assertEqual(given, [1, (2, [3, []]), "text", None])

    def test_each_is_raised_and_caught_alone(self):
        for name, (base, values) in CLASSES.items():
            made = getattr(errors, name)
            for caught in (made, base):
                with self.assertRaises(caught):
                    raise made(*[7 for _ in values])
            for other in CLASSES:
                self.assertEqual(issubclass(made, getattr(errors, other)), other == name)


if __name__ == "__main__":
    unittest.main()
