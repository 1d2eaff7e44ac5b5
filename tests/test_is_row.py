"""Points 2 and 4: what a row is, told of anything."""

import copy
import unittest

from by_piece import NOTHINGS, some_rows
from takenth.rows import is_row


class IsRow(unittest.TestCase):

    def rows(self, *things):
        for thing in things:
            with self.subTest(thing=thing):
                self.assertIs(is_row(thing), True)

    def no_rows(self, *things):
        for thing in things:
            with self.subTest(thing=thing):
                self.assertIs(is_row(thing), False)

    def test_how_many_takers(self):
        for many in range(9):
            self.rows(((2, 0),) * many, tuple((many + 2, counted) for counted in range(many)))
        for many in (9, 10, 299, 300):
            self.no_rows(((2, 0),) * many)

    def test_bounds_of_every(self):
        for counted in (0, 1):
            self.rows(((2, counted),), ((3, counted),), ((999, counted),), ((1000, counted),))
            self.no_rows(((1, counted),), ((0, counted),), ((-1, counted),), ((-2, counted),), ((1001, counted),))
            self.no_rows(((10 ** 40 - 1, counted),), ((1 - 10 ** 40, counted),))
        self.no_rows(((1001, 1000),), ((1001, 500),), ((-2, -3),), ((0, -1),))

    def test_bounds_of_counted(self):
        for every in (2, 3, 7, 999, 1000):
            self.rows(((every, 0),), ((every, 1),), ((every, every - 2),), ((every, every - 1),))
            self.no_rows(((every, -1),), ((every, every),), ((every, every + 1),), ((every, -every),))

    def test_one_wrong_taker_at_any_place(self):
        wrong_takers = ((1, 0), (1001, 0), (2, -1), (2, 2), [2, 0], (2,), (2, 0, 0), None, "ab", 2, True, (2, True))
        for many in range(1, 9):
            for place in range(many):
                for wrong in wrong_takers:
                    takers = [(2, 0)] * many
                    takers[place] = wrong
                    self.no_rows(tuple(takers))

    def test_lists_in_the_place_of_tuples(self):
        self.no_rows([], [(2, 0)], [[2, 0]], ([2, 0],), ((2, 0), [3, 1]), [(2, 0), (3, 1)])

    def test_tuples_of_another_length(self):
        self.no_rows(((),), ((2,),), ((2, 0, 0),), ((2, 0), (3,)), ((2, 0), (3, 1, 1)), ((2, 0), ()), ((0,) * 300,))

    def test_truths_are_no_numbers(self):
        self.no_rows(True, False, (True,), ((2, True),), ((2, False),), ((3, True),), ((3, False),), ((True, 0),))
        self.no_rows(((False, 0),), ((True, False),), ((True, True),))

    def test_a_pair_is_no_row_of_itself(self):
        self.no_rows((2, 0), (3, 2), (2, 2))

    def test_neither_none_nor_numbers_nor_texts(self):
        self.no_rows(None, (None,), ((None, 0),), ((2, None),), 0, 1, 2, "", "ab", ("ab",), (("2", "0"),), ("20",))

    def test_anything(self):
        self.no_rows(*NOTHINGS)

    def test_chosen_rows(self):
        self.rows(*some_rows(20, 1000))

    def test_what_is_handed_in_is_not_changed(self):
        for thing in NOTHINGS + [((2, 0), (1000, 999))]:
            before = copy.deepcopy(thing)
            is_row(thing)
            self.assertEqual(repr(thing), repr(before))


if __name__ == "__main__":
    unittest.main()
