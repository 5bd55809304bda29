"""The errors of the interface (0.3)."""

import unittest

from coverterms import errors

NAMES = """
InvalidPart InvalidTerms InvalidState InvalidKind InvalidEvent InvalidCourse InvalidRound
InvalidNumber OtherLives TooLarge TooLong ParseError InvalidWeights InvalidGoods InvalidRecord
NotAllowed Refused InvalidName Exists Full NoPart InvalidDay Taken NoEdition NothingToUndo
""".split()


class Errors(unittest.TestCase):
    def test_base_is_a_direct_subclass_of_value_error(self):
        self.assertEqual(errors.CoverError.__bases__, (ValueError,))
        self.assertEqual(errors.CoverError.__module__, "coverterms.errors")

    def test_each_is_a_direct_subclass_of_the_base(self):
        self.assertEqual(len(NAMES), 25)
        for name in NAMES:
            with self.subTest(name):
                error = getattr(errors, name)
                self.assertEqual(error.__name__, name)
                self.assertEqual(error.__bases__, (errors.CoverError,))
                self.assertEqual(error.__module__, "coverterms.errors")

    def test_there_are_no_others(self):
        found = [cls.__name__ for cls in errors.CoverError.__subclasses__()]
        self.assertEqual(sorted(found), sorted(NAMES))

    def test_each_can_be_raised_and_caught_by_the_base(self):
        for name in NAMES:
            with self.subTest(name), self.assertRaises(errors.CoverError):
                raise getattr(errors, name)("why")
