"""Point 2 and the interface: what is refused, with which refusal, and which one goes first."""

import copy
import unittest

from by_piece import NOTHINGS
from takenth.errors import NoCounts, NoNumber, NoRow, NoSeen, NoTaker, TooMany, Unlike
from takenth.orders import orders_for
from takenth.pairs import parted
from takenth.rounds import parts, round_of
from takenth.rows import piece_of, taken, who
from takenth.seen import fits, known_by

FAR = 10 ** 18
LATE = 10 ** 12
ROW = ((3, 1), (2, 0), (1000, 999))

NO_ROWS = NOTHINGS + [
    None, 0, 1, 2, -1, list(ROW), [list(taker) for taker in ROW], tuple(list(taker) for taker in ROW),
    ((1, 0),), ((1001, 0),), ((2, -1),), ((2, 2),), ((1000, 1000),), ROW * 3, ROW + (None,), ROW[0],
]
NO_NUMBERS = NOTHINGS + [None, (), -1, -2, FAR + 1, FAR + 2, -FAR, ROW, ((2, 0),)]
NO_TAKERS = NOTHINGS + [(), -1, -2, -3, len(ROW), len(ROW) + 1, 8, FAR, ROW, ROW[0], "None", (None,)]
NO_COUNTS = NOTHINGS + [
    None, (), 0, 3, (0, 0, 0), [0, 0], [0, 0, 0, 0], [0, 0, -1], [0, FAR + 1, 0], [True, 0, 0], [0, 0, None], [[0, 0, 0]],
    ["0", 0, 0], [0, (0,), 0], [10 ** 39, 0, 0], ROW, list(ROW),
]


def may_be_seen(thing):
    """Whether a thing of NOTHINGS, which are no rows and no numbers, is something seen all the same."""
    if type(thing) is not tuple or len(thing) > 200:
        return False
    return all(part is None or (type(part) is int and 0 <= part < 8) for part in thing)


NO_SEEN = [thing for thing in NOTHINGS if not may_be_seen(thing)] + [
    None, 0, 1, -1, [0, None], (8,), (-1,), (0, True), (False, None), (None,) * 201, (0,) * 300, ((0,),), ((),), ROW,
]


class Refused(unittest.TestCase):

    def refused(self, error, function, *arguments):
        before = repr(copy.deepcopy(arguments))
        with self.subTest(function=function.__name__, arguments=arguments):
            with self.assertRaises(error) as caught:
                function(*arguments)
            self.assertIs(type(caught.exception), error)
            self.assertEqual(repr(arguments), before)

    def tearDown(self):
        # What was refused has changed nothing.
        self.assertEqual([who(ROW, piece) for piece in range(1, 7)], [2, 0, 1, None, 0, 1])
        self.assertEqual(taken(ROW, 6), [2, 2, 1, 1])
        self.assertEqual(piece_of(ROW, None, 1), 4)
        self.assertEqual(piece_of(ROW, 1, 2), 6)
        self.assertEqual(round_of(ROW), 3000)
        self.assertEqual(parts(ROW), [(1, 3), (1, 3), (1, 3000), (333, 1000)])
        self.assertEqual(fits((0, None, 0), 1), [[(2, 1)]])
        self.assertEqual(known_by(ROW[:2]), 6)
        self.assertEqual(parted(ROW[:1], ((4, 2),)), 5)
        self.assertEqual(orders_for(ROW[:2], 6, [2, 2]), [(0, 1)])


class Rows(Refused):

    def test_no_row_alone(self):
        for thing in NO_ROWS:
            self.refused(NoRow, who, thing, 1)
            self.refused(NoRow, taken, thing, 1)
            self.refused(NoRow, piece_of, thing, None, 1)
            self.refused(NoRow, piece_of, thing, 0, 1)
            self.refused(NoRow, round_of, thing)
            self.refused(NoRow, parts, thing)
            self.refused(NoRow, known_by, thing)
            self.refused(NoRow, parted, thing, ROW)
            self.refused(NoRow, parted, ROW, thing)
            self.refused(NoRow, parted, (), thing)
            self.refused(NoRow, parted, thing, thing)
            self.refused(NoRow, orders_for, thing, 1, [0])

    def test_no_row_goes_first(self):
        for thing in NO_ROWS:
            for wrong in (None, True, "1", -1, 0, FAR + 1, [1], (1,)):
                self.refused(NoRow, who, thing, wrong)
                self.refused(NoRow, taken, thing, wrong)
                self.refused(NoRow, piece_of, thing, 0, wrong)
                self.refused(NoRow, piece_of, thing, None, wrong)
                self.refused(NoRow, piece_of, thing, wrong, 1)
                self.refused(NoRow, piece_of, thing, wrong, wrong)
                self.refused(NoRow, piece_of, thing, 9, wrong)
                self.refused(NoRow, parted, thing, wrong)
                self.refused(NoRow, orders_for, thing, wrong, [0])
                self.refused(NoRow, orders_for, thing, 1, wrong)
                self.refused(NoRow, orders_for, thing, wrong, wrong)

    def test_rows_that_cannot_be_known(self):
        self.refused(NoRow, known_by, ())
        for many in range(1, 9):
            for place in range(many):
                for every in (41, 42, 1000):
                    row = [(2, 0)] * many
                    row[place] = (every, 0)
                    self.refused(NoRow, known_by, tuple(row))
                    row[place] = (every, every - 1)
                    self.refused(NoRow, known_by, tuple(row))
                for every in (2, 39, 40):
                    row[place] = (every, every - 1)
                    self.assertGreaterEqual(known_by(tuple(row)), 1)
        self.refused(NoRow, known_by, ((2, 0),) * 9)


class Numbers(Refused):

    def test_no_number(self):
        for thing in NO_NUMBERS:
            for row in (ROW, ()):
                self.refused(NoNumber, who, row, thing)
                self.refused(NoNumber, taken, row, thing)
                self.refused(NoNumber, piece_of, row, None, thing)
                self.refused(NoNumber, orders_for, row, thing, [0] * len(row))
                self.refused(NoNumber, orders_for, row, thing, None)
                self.refused(NoNumber, fits, (0, None), thing)
                self.refused(NoNumber, fits, (7, None), thing)
            for taker in (0, 1, 2):
                self.refused(NoNumber, piece_of, ROW, taker, thing)

    def test_bounds_of_a_piece(self):
        for row in (ROW, ()):
            self.refused(NoNumber, who, row, 0)
            self.refused(NoNumber, who, row, FAR + 1)
            who(row, 1)
            who(row, FAR)

    def test_bounds_of_how_many_pieces(self):
        for row in (ROW, ()):
            self.refused(NoNumber, taken, row, -1)
            self.refused(NoNumber, taken, row, FAR + 1)
            self.assertEqual(taken(row, 0), [0] * (len(row) + 1))
            self.assertEqual(sum(taken(row, FAR)), FAR)

    def test_bounds_of_the_so_manieth(self):
        for row, takers in ((ROW, (0, 1, 2, None)), ((), (None,))):
            for taker in takers:
                for number in (0, -1, LATE + 1, FAR, FAR + 1):
                    self.refused(NoNumber, piece_of, row, taker, number)
                self.assertEqual(who(row, piece_of(row, taker, 1)), taker)
                self.assertEqual(who(row, piece_of(row, taker, LATE)), taker)


class Takers(Refused):

    def test_no_taker_alone(self):
        for thing in NO_TAKERS:
            self.refused(NoTaker, piece_of, ROW, thing, 1)

    def test_no_taker_goes_ahead_of_no_number(self):
        for thing in NO_TAKERS:
            for wrong in (None, True, False, "1", -1, 0, LATE + 1, [1], (1,)):
                self.refused(NoTaker, piece_of, ROW, thing, wrong)

    def test_places_of_rows_of_each_length(self):
        for many in range(9):
            row = ((2, 1),) * many
            for place in range(many):
                self.assertEqual(piece_of(row, place, 1), 2 ** place)
            for place in (-1, -many, many, many + 1, True, False):
                if type(place) is bool or not 0 <= place < many:
                    self.refused(NoTaker, piece_of, row, place, 1)
            self.assertIsNone(who(row, piece_of(row, None, 1)))


class Seen(Refused):

    def test_nothing_seen_alone(self):
        for thing in NO_SEEN:
            for many in (1, 8):
                self.refused(NoSeen, fits, thing, many)

    def test_nothing_seen_goes_ahead_of_no_number(self):
        for thing in NO_SEEN:
            for wrong in (None, True, False, "1", 0, 9, [1], (1,)):
                self.refused(NoSeen, fits, thing, wrong)

    def test_a_place_too_far_goes_behind_no_number(self):
        for many in range(1, 8):
            self.refused(NoSeen, fits, (None, many), many)
            self.refused(NoSeen, fits, (0, 7), many)
        for wrong in (None, True, False, "1", 0, 9, [1], (1,)):
            self.refused(NoNumber, fits, (None, 7), wrong)


class Counts(Refused):

    def test_no_counts_alone(self):
        for thing in NO_COUNTS:
            self.refused(NoCounts, orders_for, ROW, 6, thing)
            self.refused(NoCounts, orders_for, ROW, 0, thing)

    def test_no_counts_goes_behind_no_number(self):
        for thing in NO_COUNTS:
            self.refused(NoNumber, orders_for, ROW, -1, thing)
            self.refused(NoNumber, orders_for, ROW, FAR + 1, thing)

    def test_no_counts_goes_ahead_of_too_many(self):
        for many in (7, 8):
            for thing in NO_COUNTS:
                self.refused(NoCounts, orders_for, ((2, 0),) * many, 6, thing)
            self.refused(TooMany, orders_for, ((2, 0),) * many, 6, [0] * many)


class Lengths(Refused):

    def test_unlike(self):
        for many in range(9):
            if many != len(ROW):
                self.refused(Unlike, parted, ROW, ((2, 0),) * many)
                self.refused(Unlike, parted, ((2, 0),) * many, ROW)


if __name__ == "__main__":
    unittest.main()
