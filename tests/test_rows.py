"""Points 3, 5 and 6: who takes a piece, how many each one took, which piece is taken when."""

import unittest

from by_piece import all_short_rows, back_at_first, some_rows, takers_of, tally
from takenth.rows import piece_of, taken, who

FAR = 10 ** 18
LATE = 10 ** 12


def chosen_rows():
    """Rows of 0 to 8 takers: of small every, so that all take often, and of any."""
    edges = [((2, 0),) * 8, ((2, 1),) * 8, ((1000, 0),) * 8, ((1000, 999),) * 8, ((2, 1), (1000, 0), (2, 0), (1000, 999))]
    return edges + some_rows(6, 5, seed=2) + some_rows(4, 30, seed=3) + some_rows(2, 1000, seed=4)


def takers_and_none(row):
    return list(range(len(row))) + [None]


class Worked(unittest.TestCase):
    """One row, gone by hand."""

    row = ((3, 1), (2, 0), (5, 4))

    def test_who(self):
        told = [who(self.row, piece) for piece in range(1, 17)]
        self.assertEqual(told, [2, 0, 1, None, 0, 1, None, 0, 1, None, 0, 1, None, 0, 1, 2])

    def test_taken(self):
        self.assertEqual(taken(self.row, 0), [0, 0, 0, 0])
        self.assertEqual(taken(self.row, 1), [0, 0, 1, 0])
        self.assertEqual(taken(self.row, 16), [5, 5, 2, 4])

    def test_piece_of(self):
        self.assertEqual([piece_of(self.row, 0, number) for number in (1, 2, 3)], [2, 5, 8])
        self.assertEqual([piece_of(self.row, 1, number) for number in (1, 2, 3)], [3, 6, 9])
        self.assertEqual([piece_of(self.row, 2, number) for number in (1, 2)], [1, 16])
        self.assertEqual([piece_of(self.row, None, number) for number in (1, 2, 3)], [4, 7, 10])

    def test_no_takers(self):
        for piece in (1, 2, 77, LATE):
            self.assertIsNone(who((), piece))
            self.assertEqual(taken((), piece), [piece])
            self.assertEqual(piece_of((), None, piece), piece)
        self.assertEqual(taken((), 0), [0])
        self.assertIsNone(who((), FAR))
        self.assertEqual(taken((), FAR), [FAR])


class PieceByPiece(unittest.TestCase):

    def hold(self, row, number):
        takers = takers_of(row, number)
        so_far = [0] * (len(row) + 1)
        self.assertEqual(taken(row, 0), so_far, row)
        for piece, taker in enumerate(takers, 1):
            self.assertEqual(who(row, piece), taker, (row, piece))
            so_far[len(row) if taker is None else taker] += 1
            self.assertEqual(taken(row, piece), so_far, (row, piece))
            nth = so_far[len(row) if taker is None else taker]
            self.assertEqual(piece_of(row, taker, nth), piece, (row, taker, nth))

    def test_chosen_rows(self):
        for row in chosen_rows():
            self.hold(row, 600)

    def test_all_short_rows(self):
        for row in all_short_rows(3, 4):
            self.hold(row, 60)

    def test_rare_takers(self):
        self.hold(((1000, 998), (999, 0), (998, 997)), 4000)

    def test_kinds_of_what_is_told(self):
        for row in chosen_rows():
            for piece in (1, 2, 3, 50, FAR):
                told = who(row, piece)
                self.assertTrue(told is None or type(told) is int)
                self.assertIs(type(taken(row, piece)), list)
                self.assertEqual({type(number) for number in taken(row, piece)}, {int})
            for taker in takers_and_none(row):
                self.assertIs(type(piece_of(row, taker, 1)), int)


class FarPieces(unittest.TestCase):

    def test_far_pieces_held_against_whole_rounds(self):
        held = 0
        for row in all_short_rows(2, 5) + some_rows(30, 5, seed=5):
            length = back_at_first(row, 3000)
            if length is None:
                continue
            held += 1
            takers = takers_of(row, length)
            a_round = tally(row, takers)
            for number in (FAR, FAR - 1, FAR - 2, FAR // 7, LATE, 2 ** 59 + 1, 2 ** 53 + 1):
                rounds, rest = divmod(number, length)
                behind = tally(row, takers[:rest])
                expected = [rounds * many + more for many, more in zip(a_round, behind)]
                self.assertEqual(taken(row, number), expected, (row, number))
                self.assertEqual(who(row, number), takers[(number - 1) % length], (row, number))
            for taker in takers_and_none(row):
                pieces = [piece for piece, one in enumerate(takers, 1) if one == taker]
                for number in (LATE, LATE - 1, LATE // 3, 10 ** 9 + 7):
                    rounds, nth = divmod(number - 1, len(pieces))
                    expected = rounds * length + pieces[nth]
                    self.assertEqual(piece_of(row, taker, number), expected, (row, taker, number))
        self.assertGreater(held, 200)

    def test_what_is_taken_as_the_so_manieth_is_told_there_again(self):
        for row in chosen_rows():
            for taker in takers_and_none(row):
                place = len(row) if taker is None else taker
                for number in (1, 2, 3, 999, 10 ** 6 + 3, 10 ** 9, 987654321987, LATE - 1, LATE):
                    piece = piece_of(row, taker, number)
                    self.assertEqual(who(row, piece), taker, (row, taker, number))
                    self.assertEqual(taken(row, piece)[place], number, (row, taker, number))
                    self.assertEqual(taken(row, piece - 1)[place], number - 1, (row, taker, number))

    def test_numbers_taken_sum_to_the_number(self):
        for row in chosen_rows():
            for number in (0, 1, 2, 999, 10 ** 9, LATE, 123456789012345678, FAR - 1, FAR):
                told = taken(row, number)
                self.assertEqual(len(told), len(row) + 1)
                self.assertEqual(sum(told), number)
                self.assertGreaterEqual(min(told), 0)

    def test_one_more_piece_is_one_more_for_who_takes_it(self):
        for row in chosen_rows():
            for piece in (1, 10 ** 9, 2 ** 53 + 1, 123456789012345678, FAR - 1, FAR):
                expected = taken(row, piece - 1)
                taker = who(row, piece)
                expected[len(row) if taker is None else taker] += 1
                self.assertEqual(taken(row, piece), expected, (row, piece))

    def test_latest_piece_of_all(self):
        row = ((2, 0),) * 7 + ((1000, 0),)
        self.assertEqual(piece_of(row, 7, 1), 127873)
        self.assertEqual(takers_of(row, 127873).index(7), 127872)
        self.assertEqual(piece_of(row, 7, LATE), 128000 * LATE - 127)


class AskersOwn(unittest.TestCase):

    def test_the_list_told_is_a_new_one(self):
        row = ((3, 1), (2, 0))
        first = taken(row, 100)
        second = taken(row, 100)
        self.assertEqual(first, second)
        self.assertIsNot(first, second)
        first.append(5)
        first[0] = None
        self.assertEqual(taken(row, 100), second)
        self.assertIsNot(taken((), 0), taken((), 0))

    def test_a_row_handed_in_stays_as_it_is(self):
        row = ((3, 1), (2, 0), (1000, 999))
        who(row, 100)
        taken(row, 100)
        piece_of(row, 2, 100)
        piece_of(row, None, 100)
        self.assertEqual(row, ((3, 1), (2, 0), (1000, 999)))

    def test_the_same_asked_again_is_answered_the_same(self):
        rows = chosen_rows()
        first = [(who(row, 777), taken(row, 777), piece_of(row, None, 777)) for row in rows]
        second = [(who(row, 777), taken(row, 777), piece_of(row, None, 777)) for row in reversed(rows)]
        self.assertEqual(first, second[::-1])


if __name__ == "__main__":
    unittest.main()
