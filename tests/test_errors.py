"""The classes of errors (points 0.2 and the interface)."""

import unittest

from casefamilies import errors

NAMES = ["BadText", "Unknown", "NoProfile", "NotThere", "BadCode", "BadProgram", "BadMaker", "BadFunction",
         "BadQuestion", "InUse", "Taken", "Full", "NothingToUndo"]


class Errors(unittest.TestCase):
    def test_base_class(self):
        self.assertEqual(errors.FamilyError.__bases__, (ValueError,))

    def test_all_are_directly_below_the_base_class(self):
        for name in NAMES:
            self.assertEqual(getattr(errors, name).__bases__, (errors.FamilyError,), name)

    def test_they_are_different_and_can_be_raised_with_a_text(self):
        self.assertEqual(len({getattr(errors, name) for name in NAMES}), 13)
        for name in NAMES:
            if name != "BadCode":
                with self.assertRaises(getattr(errors, name)):
                    raise getattr(errors, name)("why")

    def test_bad_code_has_its_place(self):
        self.assertEqual(errors.BadCode(0).place, 0)
        self.assertEqual(errors.BadCode(17).place, 17)
        self.assertEqual(errors.BadCode(place=3).place, 3)
        with self.assertRaises(errors.FamilyError) as caught:
            raise errors.BadCode(5)
        self.assertEqual(caught.exception.place, 5)
        self.assertIs(type(caught.exception.place), int)


if __name__ == "__main__":
    unittest.main()
