"""Points 3 and 10: by which piece two rows first come to something unlike."""

import random
import unittest

from by_piece import Gone, all_short_rows, row_of, some_rows
from takenth.errors import NoRow, Unlike
from takenth.pairs import parted
from takenth.rows import taken, who


def parted_by_piece(one, other, most):
    """The least piece that parts two rows, both gone piece by piece; None if it is above most."""
    first, second = Gone(one), Gone(other)
    for piece in range(1, most + 1):
        if first.next_piece() != second.next_piece():
            return piece
    return None


def with_changes(rng, row, changes, most_every):
    """The row with so many of its takers drawn anew."""
    changed = list(row)
    for place in rng.sample(range(len(row)), min(changes, len(row))):
        every = rng.choice((changed[place][0], rng.randint(2, most_every)))
        changed[place] = (every, rng.randrange(every))
    return tuple(changed)


class Parted(unittest.TestCase):

    def hold(self, one, other, most=1000000):
        told = parted(one, other)
        self.assertEqual(told, parted_by_piece(one, other, most) if one != other else None, (one, other))
        self.assertEqual(parted(other, one), told, (one, other))
        if told is not None:
            self.assertIs(type(told), int)
            self.assertNotEqual(who(one, told), who(other, told))
            self.assertEqual(taken(one, told - 1), taken(other, told - 1))
        return told

    def test_worked(self):
        self.assertIsNone(parted((), ()))
        self.assertEqual(parted(((2, 0),), ((2, 1),)), 1)
        self.assertEqual(parted(((2, 0),), ((3, 1),)), 4)
        self.assertEqual(parted(((3, 0),), ((2, 0),)), 2)
        self.assertEqual(parted(((1000, 0),), ((1000, 1),)), 999)
        self.assertEqual(parted(((1000, 0),), ((999, 0),)), 999)
        self.assertEqual(parted(((1000, 1),), ((999, 0),)), 1998)
        # The first place parts them by piece 999 only; the second one does by piece 2.
        self.assertEqual(parted(((1000, 0), (2, 0)), ((1000, 1), (3, 0))), 2)
        self.assertEqual(parted(((2, 0), (2, 0)), ((2, 0), (3, 1))), 7)

    def test_all_short_rows(self):
        rows = all_short_rows(2, 4)
        for one in rows:
            for other in rows:
                if len(one) == len(other):
                    self.hold(one, other)

    def test_all_rows_of_three(self):
        rows = [row for row in all_short_rows(3, 3) if len(row) == 3]
        for one in rows:
            for other in rows:
                self.hold(one, other)

    def test_drawn_rows(self):
        rng = random.Random(51)
        for most_every in (3, 10, 1000):
            for one in some_rows(10, most_every, seed=52):
                self.hold(one, row_of(rng, len(one), most_every))
                for changes in (1, 2, 3, 8):
                    self.hold(one, with_changes(rng, one, changes, most_every))

    def test_a_row_beside_itself(self):
        for row in some_rows(10, 1000, seed=53) + all_short_rows(2, 5):
            self.assertIsNone(parted(row, row))
            self.assertIsNone(parted(row, tuple((every, counted) for every, counted in row)))

    def test_rows_that_differ_part_by_some_piece(self):
        rng = random.Random(54)
        for one in some_rows(40, 1000, seed=55):
            other = with_changes(rng, one, 1, 1000)
            self.assertEqual(parted(one, other) is None, one == other)

    def test_the_same_takers_in_another_order(self):
        rng = random.Random(56)
        for one in some_rows(10, 1000, seed=57):
            other = list(one)
            rng.shuffle(other)
            self.hold(one, tuple(other))

    def test_far_pieces(self):
        rng = random.Random(58)
        ahead = ((2, 0),) * 7
        self.assertEqual(self.hold(ahead + ((1000, 1),), ahead + ((999, 0),)), 128 * 1997 + 1)
        for _ in range(20):
            ahead = row_of(rng, 7, 3)
            first = rng.randint(1, 998)
            everies = rng.sample(range(max(first, 2), 1001), 2)
            one, other = [ahead + ((every, every - first),) for every in everies]
            self.assertGreater(self.hold(one, other), first)

    def test_the_first_places_part_late_and_the_last_one_early(self):
        for many in range(2, 9):
            one = ((1000, 1),) * (many - 1) + ((2, 0),)
            other = ((999, 0),) * (many - 1) + ((2, 1),)
            self.assertEqual(self.hold(one, other), 1)


class Refused(unittest.TestCase):

    def refused(self, error, one, other):
        with self.subTest(one=one, other=other):
            with self.assertRaises(error) as caught:
                parted(one, other)
            self.assertIs(type(caught.exception), error)

    def test_rows_of_other_lengths(self):
        for many in range(9):
            for more in range(9):
                one, other = ((2, 0),) * many, ((2, 0),) * more
                if many == more:
                    self.assertIsNone(parted(one, other))
                else:
                    self.refused(Unlike, one, other)
        self.refused(Unlike, ((2, 0),), ((3, 0), (3, 1)))

    def test_no_row_goes_ahead_of_unlike(self):
        for wrong in (None, [], 0, ((1, 0),), ((2, 2),), ((1001, 0),), ((2, 0),) * 9, ((2, True),)):
            for row in ((), ((2, 0),), ((2, 0),) * 8):
                self.refused(NoRow, wrong, row)
                self.refused(NoRow, row, wrong)
            self.refused(NoRow, wrong, wrong)

    def test_what_is_handed_in_stays_as_it_is(self):
        one, other = ((3, 1), (5, 0)), ((3, 1), (4, 0))
        first = parted(one, other)
        self.assertEqual((one, other), (((3, 1), (5, 0)), ((3, 1), (4, 0))))
        self.assertEqual(parted(one, other), first)


if __name__ == "__main__":
    unittest.main()
