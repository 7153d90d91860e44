"""The errors of the interface: their kinds, their arguments and their attributes."""

import unittest

from tests import model
from viewstairs import errors

ONE_THING = {"BadStair": (ValueError, "place"), "BadWeb": (ValueError, "place"), "BadReads": (ValueError, "place"),
             "BadPaper": (ValueError, "part"), "TooGreat": (OverflowError, "most"), "Missing": (LookupError, "name")}
NAMES = [*ONE_THING, "BadText", "OutOfPlace"]


class Errors(unittest.TestCase):

    def test_attributes(self):
        for name, (_, attribute) in ONE_THING.items():
            made = getattr(errors, name)
            for thing in model.no_integers() + [3, 10 ** 5000, ("step", 3)]:
                self.assertIs(getattr(made(thing), attribute), thing)
                self.assertIs(getattr(made(**{attribute: thing}), attribute), thing)

    def test_bad_text(self):
        for thing in model.no_integers() + [3, 10 ** 5000]:
            for error in (errors.BadText(thing, 7), errors.BadText(line=thing, word=7)):
                self.assertIs(error.line, thing)
                self.assertEqual(error.word, 7)
            self.assertIs(errors.BadText(7, thing).word, thing)

    def test_out_of_place(self):
        self.assertEqual(str(errors.OutOfPlace("some words")), "some words")
        self.assertEqual(str(errors.OutOfPlace(text="some words")), "some words")
        for thing in model.no_integers() + [3, 10 ** 5000]:
            self.assertIsInstance(errors.OutOfPlace(thing), ValueError)

    def test_kinds(self):
        for name in NAMES:
            kind = ONE_THING.get(name, (ValueError, ""))[0]
            made = getattr(errors, name)
            self.assertTrue(issubclass(made, kind))
            for other in (ValueError, OverflowError, LookupError):
                self.assertIs(issubclass(made, other), other is kind)
            self.assertFalse(issubclass(made, (KeyError, IndexError)))
            self.assertEqual(made.__module__, "viewstairs.errors")

    def test_none_is_a_subclass_of_another_one(self):
        for name in NAMES:
            for other in NAMES:
                if name != other:
                    self.assertFalse(issubclass(getattr(errors, name), getattr(errors, other)))

    def test_they_are_raised_and_caught(self):
        for name in ONE_THING:
            made = getattr(errors, name)
            with self.assertRaises(made) as caught:
                raise made(("step", 4))
            self.assertIsInstance(str(caught.exception), str)


if __name__ == "__main__":
    unittest.main()
