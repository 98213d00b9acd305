"""The classes of fracwalk.errors: bases, names of arguments, no subclasses among them."""

import itertools
import unittest

from fracwalk import errors

CLASSES = {
    "NotAMove": (ValueError, "value"),
    "NotAValue": (ValueError, "value"),
    "NotAWord": (ValueError, "value"),
    "NotReduced": (ValueError, "word"),
    "InvalidProgram": (ValueError, "path"),
    "ParseError": (ValueError, "line"),
    "UnknownPlace": (LookupError, "place"),
    "UnknownEdge": (LookupError, "number"),
    "UnknownCheckpoint": (LookupError, "number"),
    "UnknownRecord": (LookupError, "number"),
    "WrongPlace": (RuntimeError, "number"),
    "LimitExceeded": (OverflowError, "limit"),
}

ARGUMENTS = [0, 26, -1, None, True, "", "ss", (), (0, "name", 1), [1, 2], {"a": [1]}]


class ErrorClasses(unittest.TestCase):
    def test_direct_base(self):
        for name, (base, _) in CLASSES.items():
            with self.subTest(name):
                self.assertEqual(getattr(errors, name).__bases__, (base,))

    def test_none_is_subclass_of_another(self):
        for one, other in itertools.permutations(CLASSES, 2):
            with self.subTest(one=one, other=other):
                self.assertFalse(issubclass(getattr(errors, one), getattr(errors, other)))

    def test_keeps_its_argument_by_position(self):
        for name, (_, argument) in CLASSES.items():
            for kept in ARGUMENTS:
                with self.subTest(name, kept=kept):
                    error = getattr(errors, name)(kept)
                    self.assertIs(getattr(error, argument), kept)

    def test_keeps_its_argument_by_name(self):
        for name, (_, argument) in CLASSES.items():
            for kept in ARGUMENTS:
                with self.subTest(name, kept=kept):
                    error = getattr(errors, name)(**{argument: kept})
                    self.assertIs(getattr(error, argument), kept)

    def test_takes_exactly_one_argument_of_this_name(self):
        for name, (_, argument) in CLASSES.items():
            with self.subTest(name):
                with self.assertRaises(TypeError):
                    getattr(errors, name)()
                with self.assertRaises(TypeError):
                    getattr(errors, name)(1, 2)
                with self.assertRaises(TypeError):
                    getattr(errors, name)(**{argument + "_": 1})

    def test_raised_and_caught_by_its_base(self):
        for name, (base, argument) in CLASSES.items():
            with self.subTest(name):
                with self.assertRaises(base) as caught:
                    raise getattr(errors, name)(7)
                self.assertEqual(getattr(caught.exception, argument), 7)

    def test_module_has_no_other_classes(self):
        found = {name for name, thing in vars(errors).items() if isinstance(thing, type)}
        self.assertEqual(found, set(CLASSES))


if __name__ == "__main__":
    unittest.main()
