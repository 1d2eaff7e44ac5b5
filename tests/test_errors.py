"""The interface: the refusals, and where each name is defined."""

import unittest

from takenth import errors, rounds, rows

OF_A_TEXT = ("NoRow", "NoNumber", "NoTaker", "NoSeen", "NoCounts", "NoPlace", "Unlike", "Full")
ALL = OF_A_TEXT + ("TooMany",)


class Refusals(unittest.TestCase):

    def test_any_refusal_is_a_value_error(self):
        self.assertEqual(errors.TakeError.__bases__, (ValueError,))
        self.assertEqual(str(errors.TakeError("why")), "why")

    def test_straight_under_it_and_under_no_other_one(self):
        for name in ALL:
            one = getattr(errors, name)
            self.assertEqual(one.__bases__, (errors.TakeError,), name)
            for other in ALL:
                self.assertEqual(issubclass(one, getattr(errors, other)), name == other)

    def test_made_of_a_text(self):
        for name in OF_A_TEXT:
            made = getattr(errors, name)("why not")
            self.assertEqual(str(made), "why not")
            with self.assertRaises(errors.TakeError):
                raise made

    def test_too_many_is_made_of_its_field(self):
        for most in (0, 6, 8, 10 ** 18):
            made = errors.TooMany(most)
            self.assertEqual(made.most, most)
            self.assertIs(type(made.most), int)
            with self.assertRaises(errors.TakeError) as caught:
                raise made
            self.assertEqual(caught.exception.most, most)
        with self.assertRaises(TypeError):
            errors.TooMany()

    def test_two_made_keep_their_own_field(self):
        one, other = errors.TooMany(6), errors.TooMany(7)
        self.assertEqual((one.most, other.most), (6, 7))


class Defined(unittest.TestCase):

    def test_in_the_file_that_lists_it(self):
        listed = (
            (errors, ("TakeError",) + ALL),
            (rows, ("is_row", "who", "taken", "piece_of")),
            (rounds, ("round_of", "parts")),
        )
        for module, names in listed:
            for name in names:
                self.assertEqual(getattr(module, name).__module__, module.__name__, name)


if __name__ == "__main__":
    unittest.main()
