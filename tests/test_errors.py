"""wormways.errors: the nine classes and their fields."""

import unittest

from wormways import errors

UNDER = ("BadNet", "BadTable", "BadLanes", "BadPaper", "BadLetter", "BadRoom", "BadTies", "BadText")


class Errors(unittest.TestCase):
    def test_the_first_one_is_a_value_error(self):
        self.assertEqual(errors.WormError.__bases__, (ValueError,))

    def test_all_others_are_under_it_and_none_under_another(self):
        for name in UNDER:
            with self.subTest(name):
                self.assertEqual(getattr(errors, name).__bases__, (errors.WormError,))

    def test_all_are_defined_here(self):
        for name in ("WormError", *UNDER):
            self.assertEqual(getattr(errors, name).__module__, "wormways.errors")

    def test_fields_are_set_when_the_object_is_made(self):
        self.assertEqual(errors.BadTable((3, 1)).place, (3, 1))
        self.assertEqual(errors.BadText(4).row, 4)

    def test_all_can_be_raised_and_caught_as_the_first_one(self):
        for name in UNDER:
            with self.subTest(name):
                made = getattr(errors, name)
                with self.assertRaises(errors.WormError) as caught:
                    raise made(7)
                self.assertEqual(type(caught.exception), made)
                self.assertTrue(str(caught.exception))


if __name__ == "__main__":
    unittest.main()
