"""Point 11: in which orders takers take told numbers."""

import itertools
import random
import unittest

from by_piece import all_short_rows, row_of, some_rows, takers_of, tally
from takenth.errors import NoCounts, NoNumber, NoRow, TooMany
from takenth.orders import orders_for
from takenth.rows import taken

FAR = 10 ** 18


def counts_in(row, order, number):
    """What each taker of the row takes of so many pieces, standing in this order."""
    took = taken(tuple(row[place] for place in order), number)
    counts = [None] * len(row)
    for place, many in zip(order, took):
        counts[place] = many
    return counts


def orders_tried(row, number, counts):
    """All orders that give the counts, every order tried."""
    return [order for order in itertools.permutations(range(len(row))) if counts_in(row, order, number) == counts]


def drawn_order(rng, row):
    return rng.sample(range(len(row)), len(row))


class Orders(unittest.TestCase):

    def hold(self, row, number, counts):
        before = list(counts)
        told = orders_for(row, number, counts)
        self.assertEqual(told, orders_tried(row, number, counts), (row, number, counts))
        self.assertEqual(counts, before)
        self.assertIs(type(told), list)
        self.assertEqual(told, sorted(set(told)))
        for order in told:
            self.assertIs(type(order), tuple)
            self.assertEqual([type(place) for place in order], [int] * len(row))
            self.assertEqual(sorted(order), list(range(len(row))))
        return told

    def test_worked(self):
        self.assertEqual(orders_for((), 0, []), [()])
        self.assertEqual(orders_for((), FAR, []), [()])
        self.assertEqual(orders_for(((2, 0),), 4, [2]), [(0,)])
        self.assertEqual(orders_for(((2, 0),), 4, [1]), [])
        self.assertEqual(orders_for(((2, 0), (2, 0)), 4, [2, 1]), [(0, 1)])
        self.assertEqual(orders_for(((2, 0), (2, 0)), 4, [1, 2]), [(1, 0)])
        self.assertEqual(orders_for(((3, 1), (2, 0)), 1, [0, 0]), [(0, 1), (1, 0)])
        # Counts go with the takers: the one of every 5 stands last, then first.
        row = ((5, 0), (2, 0), (3, 0))
        self.assertEqual(orders_for(row, 30, [2, 15, 5]), [(1, 2, 0)])
        self.assertEqual(orders_for(row, 30, [6, 12, 4]), [(0, 1, 2)])

    def test_an_order_gone_piece_by_piece(self):
        rng = random.Random(61)
        for row in some_rows(3, 9, seed=62):
            if len(row) <= 6:
                order = drawn_order(rng, row)
                number = rng.randint(1, 300)
                standing = tuple(row[place] for place in order)
                took = tally(standing, takers_of(standing, number))
                counts = [took[order.index(place)] for place in range(len(row))]
                self.assertIn(tuple(order), self.hold(row, number, counts))

    def test_all_short_rows(self):
        for row in all_short_rows(2, 4):
            for number in (0, 1, 2, 3, 5, 12):
                for counts in itertools.product(range(4), repeat=len(row)):
                    self.hold(row, number, list(counts))

    def test_drawn_rows(self):
        rng = random.Random(63)
        for many in range(7):
            for most_every in (3, 10, 1000):
                for number in (0, 1, 7, 60, 1000, 10 ** 9, FAR - 1, FAR):
                    row = row_of(rng, many, most_every)
                    order = drawn_order(rng, row)
                    counts = counts_in(row, order, number)
                    self.assertIn(tuple(order), self.hold(row, number, counts))
                    if many:
                        at = rng.randrange(many)
                        counts[at] = max(0, counts[at] + rng.choice((-1, 1)))
                        self.hold(row, number, counts)
                        rng.shuffle(counts)
                        self.hold(row, number, counts)

    def test_takers_alike(self):
        for many in range(7):
            row = ((4, 1),) * many
            for number in (0, 2, 3, 10, 100):
                told = self.hold(row, number, counts_in(row, range(many), number))
                self.assertIn(tuple(range(many)), told)

    def test_all_orders_of_no_pieces(self):
        rng = random.Random(64)
        for many in range(7):
            row = row_of(rng, many, 1000)
            every_order = list(itertools.permutations(range(many)))
            self.assertEqual(orders_for(row, 0, [0] * many), every_order)
            if many:
                self.assertEqual(orders_for(row, 0, [0] * (many - 1) + [1]), [])

    def test_bounds_of_counts(self):
        for many in range(1, 7):
            row = ((2, 1),) * many
            self.assertEqual(orders_for(row, FAR, [FAR] * many), [])
            self.assertEqual(orders_for(row, FAR, [0] * many), [])

    def test_the_list_told_is_a_new_one(self):
        for row, number, counts in (((), 3, []), (((3, 1), (2, 0)), 1, [0, 0]), (((2, 0),), 4, [1])):
            first, second = orders_for(row, number, counts), orders_for(row, number, counts)
            self.assertEqual(first, second)
            self.assertIsNot(first, second)
            first.append(None)
            first[0] = 5
            self.assertEqual(orders_for(row, number, counts), second)


class Refused(unittest.TestCase):

    def refused(self, error, row, number, counts):
        with self.subTest(row=row, number=number, counts=counts):
            with self.assertRaises(error) as caught:
                orders_for(row, number, counts)
            self.assertIs(type(caught.exception), error)
            return caught.exception

    def test_too_many(self):
        for many in (7, 8):
            for number in (0, 5, FAR):
                for count in (0, 1, FAR):
                    self.assertEqual(self.refused(TooMany, ((2, 0),) * many, number, [count] * many).most, 6)
        self.assertEqual(len(orders_for(((2, 0),) * 6, 0, [0] * 6)), 720)

    def test_too_many_goes_behind_all_others(self):
        for many in (7, 8):
            row = ((2, 0),) * many
            for wrong in (-1, FAR + 1, True, None, "1"):
                self.refused(NoNumber, row, wrong, [0] * many)
                self.refused(NoNumber, row, wrong, None)
                self.refused(NoCounts, row, 1, [0] * (many - 1) + [wrong])
            for counts in ([], [0] * 6, [0] * (many - 1), [0] * (many + 1), (0,) * many, None):
                self.refused(NoCounts, row, 1, counts)
        self.refused(NoRow, ((2, 0),) * 9, 1, [0] * 9)

    def test_numbers(self):
        for row in ((), ((2, 0),), ((2, 0), (3, 0))):
            counts = [0] * len(row)
            for number in (-1, FAR + 1, True, False, None, "0", [0], (0,), 10 ** 40 - 1):
                self.refused(NoNumber, row, number, counts)
            for number in (0, 1, FAR - 1, FAR):
                self.hold_list(orders_for(row, number, counts))

    def hold_list(self, told):
        self.assertIs(type(told), list)

    def test_counts_of_another_length(self):
        for many in range(7):
            for more in range(12):
                if many != more:
                    self.refused(NoCounts, ((2, 0),) * many, 5, [0] * more)

    def test_counts_that_are_no_list(self):
        row = ((2, 0), (3, 0))
        for counts in ((0, 0), None, 0, True, "00", "", {}, ((0, 0),), [[0, 0]], [(0, 0)]):
            self.refused(NoCounts, row, 5, counts)
        self.refused(NoCounts, (), 5, ())
        self.refused(NoCounts, (), 5, None)

    def test_counts_of_things_that_are_no_numbers(self):
        for many in range(1, 7):
            for place in range(many):
                for wrong in (-1, FAR + 1, True, False, None, "0", [0], (0,), 10 ** 40 - 1, 1 - 10 ** 40):
                    counts = [0] * many
                    counts[place] = wrong
                    self.refused(NoCounts, ((2, 0),) * many, 5, counts)
                for right in (0, 1, FAR):
                    counts = [0] * many
                    counts[place] = right
                    self.hold_list(orders_for(((2, 0),) * many, 5, counts))

    def test_which_refusal_goes_first(self):
        for counts in (None, [], [0], [0, -1], (0, 0)):
            self.refused(NoRow, [(2, 0)], -1, counts)
            self.refused(NoRow, ((2, 2),), 1, counts)
            self.refused(NoNumber, ((2, 0), (2, 0)), -1, counts)
            self.refused(NoCounts, ((2, 0), (2, 0)), 1, counts)


if __name__ == "__main__":
    unittest.main()
