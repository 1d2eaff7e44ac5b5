"""The interface: the refusals, and where each name is defined."""

import inspect
import unittest

from takenth import belts, errors, orders, pairs, rounds, rows, seen

OF_A_TEXT = ("NoRow", "NoNumber", "NoTaker", "NoSeen", "NoCounts", "NoPlace", "Unlike", "Full")
ALL = OF_A_TEXT + ("TooMany",)


class Refusals(unittest.TestCase):

    def test_any_refusal_is_a_value_error(self):
        self.assertEqual(errors.TakeError.__bases__, (ValueError,))
        self.assertEqual(str(errors.TakeError("why")), "why")

    def test_straight_under_it_and_under_no_other_one(self):
        for name in ALL:
            one = getattr(errors, name)
            self.assertEqual(one.__bases__, (errors.TakeError,), name)
            for other in ALL:
                self.assertEqual(issubclass(one, getattr(errors, other)), name == other)

    def test_made_of_a_text(self):
        for name in OF_A_TEXT:
            made = getattr(errors, name)("why not")
            self.assertEqual(str(made), "why not")
            with self.assertRaises(errors.TakeError):
                raise made

    def test_too_many_is_made_of_its_field(self):
        for most in (0, 6, 8, 10 ** 18):
            made = errors.TooMany(most)
            self.assertEqual(made.most, most)
            self.assertIs(type(made.most), int)
            with self.assertRaises(errors.TakeError) as caught:
                raise made
            self.assertEqual(caught.exception.most, most)
        with self.assertRaises(TypeError):
            errors.TooMany()

    def test_two_made_keep_their_own_field(self):
        one, other = errors.TooMany(6), errors.TooMany(7)
        self.assertEqual((one.most, other.most), (6, 7))


LISTED = (
    (rows, (("is_row", "thing"), ("who", "row piece"), ("taken", "row number"), ("piece_of", "row taker number"))),
    (rounds, (("round_of", "row"), ("parts", "row"))),
    (seen, (("fits", "seen many"), ("known_by", "row"))),
    (pairs, (("parted", "one other"),)),
    (orders, (("orders_for", "row number counts"),)),
)
OF_A_BELT = (
    ("go_by", "number"), ("come", "taker"), ("leave", "place"), ("change", "place other"),
    ("row", ""), ("gone", ""), ("left_over", ""), ("__len__", ""), ("__eq__", "other"),
)


class Defined(unittest.TestCase):

    def test_refusals(self):
        for name in ("TakeError",) + ALL:
            self.assertEqual(getattr(errors, name).__module__, "takenth.errors", name)

    def test_functions_in_the_file_that_lists_them(self):
        for module, names in LISTED:
            for name, arguments in names:
                function = getattr(module, name)
                self.assertEqual(function.__module__, module.__name__, name)
                self.assertEqual(list(inspect.signature(function).parameters), arguments.split(), name)

    def test_belt_and_its_methods(self):
        self.assertEqual(belts.Belt.__module__, "takenth.belts")
        self.assertEqual(list(inspect.signature(belts.Belt).parameters), [])
        for name, arguments in OF_A_BELT:
            method = vars(belts.Belt)[name]
            self.assertEqual(list(inspect.signature(method).parameters), ["self"] + arguments.split(), name)


if __name__ == "__main__":
    unittest.main()
