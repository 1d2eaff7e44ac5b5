"""Point 2 and the interface: what is refused, with which refusal, and which one goes first."""

import copy
import unittest

from by_piece import NOTHINGS
from takenth.errors import NoNumber, NoRow, NoTaker
from takenth.rounds import parts, round_of
from takenth.rows import piece_of, taken, who

FAR = 10 ** 18
LATE = 10 ** 12
ROW = ((3, 1), (2, 0), (1000, 999))

NO_ROWS = NOTHINGS + [
    None, 0, 1, 2, -1, list(ROW), [list(taker) for taker in ROW], tuple(list(taker) for taker in ROW),
    ((1, 0),), ((1001, 0),), ((2, -1),), ((2, 2),), ((1000, 1000),), ROW * 3, ROW + (None,), ROW[0],
]
NO_NUMBERS = NOTHINGS + [None, (), -1, -2, FAR + 1, FAR + 2, -FAR, ROW, ((2, 0),)]
NO_TAKERS = NOTHINGS + [(), -1, -2, -3, len(ROW), len(ROW) + 1, 8, FAR, ROW, ROW[0], "None", (None,)]


class Refused(unittest.TestCase):

    def refused(self, error, function, *arguments):
        before = repr(copy.deepcopy(arguments))
        with self.subTest(function=function.__name__, arguments=arguments):
            with self.assertRaises(error) as caught:
                function(*arguments)
            self.assertIs(type(caught.exception), error)
            self.assertEqual(repr(arguments), before)

    def tearDown(self):
        # What was refused has changed nothing.
        self.assertEqual([who(ROW, piece) for piece in range(1, 7)], [2, 0, 1, None, 0, 1])
        self.assertEqual(taken(ROW, 6), [2, 2, 1, 1])
        self.assertEqual(piece_of(ROW, None, 1), 4)
        self.assertEqual(piece_of(ROW, 1, 2), 6)
        self.assertEqual(round_of(ROW), 3000)
        self.assertEqual(parts(ROW), [(1, 3), (1, 3), (1, 3000), (333, 1000)])


class Rows(Refused):

    def test_no_row_alone(self):
        for thing in NO_ROWS:
            self.refused(NoRow, who, thing, 1)
            self.refused(NoRow, taken, thing, 1)
            self.refused(NoRow, piece_of, thing, None, 1)
            self.refused(NoRow, piece_of, thing, 0, 1)
            self.refused(NoRow, round_of, thing)
            self.refused(NoRow, parts, thing)

    def test_no_row_goes_first(self):
        for thing in NO_ROWS:
            for wrong in (None, True, "1", -1, 0, FAR + 1, [1], (1,)):
                self.refused(NoRow, who, thing, wrong)
                self.refused(NoRow, taken, thing, wrong)
                self.refused(NoRow, piece_of, thing, 0, wrong)
                self.refused(NoRow, piece_of, thing, None, wrong)
                self.refused(NoRow, piece_of, thing, wrong, 1)
                self.refused(NoRow, piece_of, thing, wrong, wrong)
                self.refused(NoRow, piece_of, thing, 9, wrong)


class Numbers(Refused):

    def test_no_number(self):
        for thing in NO_NUMBERS:
            for row in (ROW, ()):
                self.refused(NoNumber, who, row, thing)
                self.refused(NoNumber, taken, row, thing)
                self.refused(NoNumber, piece_of, row, None, thing)
            for taker in (0, 1, 2):
                self.refused(NoNumber, piece_of, ROW, taker, thing)

    def test_bounds_of_a_piece(self):
        for row in (ROW, ()):
            self.refused(NoNumber, who, row, 0)
            self.refused(NoNumber, who, row, FAR + 1)
            who(row, 1)
            who(row, FAR)

    def test_bounds_of_how_many_pieces(self):
        for row in (ROW, ()):
            self.refused(NoNumber, taken, row, -1)
            self.refused(NoNumber, taken, row, FAR + 1)
            self.assertEqual(taken(row, 0), [0] * (len(row) + 1))
            self.assertEqual(sum(taken(row, FAR)), FAR)

    def test_bounds_of_the_so_manieth(self):
        for row, takers in ((ROW, (0, 1, 2, None)), ((), (None,))):
            for taker in takers:
                for number in (0, -1, LATE + 1, FAR, FAR + 1):
                    self.refused(NoNumber, piece_of, row, taker, number)
                self.assertEqual(who(row, piece_of(row, taker, 1)), taker)
                self.assertEqual(who(row, piece_of(row, taker, LATE)), taker)


class Takers(Refused):

    def test_no_taker_alone(self):
        for thing in NO_TAKERS:
            self.refused(NoTaker, piece_of, ROW, thing, 1)

    def test_no_taker_goes_ahead_of_no_number(self):
        for thing in NO_TAKERS:
            for wrong in (None, True, False, "1", -1, 0, LATE + 1, [1], (1,)):
                self.refused(NoTaker, piece_of, ROW, thing, wrong)

    def test_places_of_rows_of_each_length(self):
        for many in range(9):
            row = ((2, 1),) * many
            for place in range(many):
                self.assertEqual(piece_of(row, place, 1), 2 ** place)
            for place in (-1, -many, many, many + 1, True, False):
                if type(place) is bool or not 0 <= place < many:
                    self.refused(NoTaker, piece_of, row, place, 1)
            self.assertIsNone(who(row, piece_of(row, None, 1)))


if __name__ == "__main__":
    unittest.main()
