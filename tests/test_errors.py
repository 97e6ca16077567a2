"""The refusals [2]."""

import unittest

from sootring import errors

NAMES = [
    "NoCell", "Twice", "NoCoal", "NoNumber", "NoWord", "NoPairing",
    "Unpaired", "NoTable", "NoTurn", "NoText", "NoRow",
]


class Refusals(unittest.TestCase):

    def test_base_stands_under_value_error(self):
        self.assertEqual(errors.SootError.__bases__, (ValueError,))

    def test_each_stands_straight_under_the_base(self):
        for name in NAMES:
            with self.subTest(name):
                self.assertEqual(getattr(errors, name).__bases__, (errors.SootError,))

    def test_none_stands_under_another_one(self):
        classes = [getattr(errors, name) for name in NAMES]
        for one in classes:
            for other in classes:
                self.assertEqual(issubclass(one, other), one is other)

    def test_there_are_no_others(self):
        found = [name for name, thing in vars(errors).items() if isinstance(thing, type)]
        self.assertEqual(sorted(found), sorted(NAMES + ["SootError"]))

    def test_each_can_be_raised_with_words(self):
        for name in NAMES:
            with self.assertRaises(ValueError) as caught:
                raise getattr(errors, name)("some words")
            self.assertEqual(str(caught.exception), "some words")


if __name__ == "__main__":
    unittest.main()
