"""Points 3 and 7: when the taking comes round, and what part of all each one takes."""

import math
import random
import unittest
from fractions import Fraction

from by_piece import all_short_rows, back_at_first, row_of, some_rows, takers_of, tally
from takenth.rounds import parts, round_of
from takenth.rows import taken, who

FAR = 10 ** 18


def any_rows():
    edges = [((2, 0),) * 8, ((1000, 999),) * 8, ((997, 3), (991, 5), (983, 0), (977, 1), (971, 0), (967, 0), (953, 0), (947, 2))]
    return edges + some_rows(10, 6, seed=6) + some_rows(10, 40, seed=7) + some_rows(20, 1000, seed=8)


def goes_round(row, number):
    """Whether each taker counts a whole number of times through, of so many pieces."""
    coming = number
    for every, counted in row:
        if coming % every:
            return False
        coming -= coming // every
    return True


def primes_of(number):
    """The primes that divide a number whose primes are all below 1000."""
    return [prime for prime in range(2, 1000) if number % prime == 0 and all(prime % low for low in range(2, prime))]


def fractions_of(row):
    """The parts, put together the other way: from the last taker to the first."""
    told = [Fraction(1)]
    for every, counted in reversed(row):
        told = [Fraction(1, every)] + [share * Fraction(every - 1, every) for share in told]
    return told


class Rounds(unittest.TestCase):

    def test_worked(self):
        self.assertEqual(round_of(()), 1)
        self.assertEqual(round_of(((2, 0),)), 2)
        self.assertEqual(round_of(((2, 1),)), 2)
        self.assertEqual(round_of(((1000, 999),)), 1000)
        self.assertEqual(round_of(((2, 0), (2, 0))), 4)
        self.assertEqual(round_of(((3, 1), (2, 0))), 3)
        self.assertEqual(round_of(((2, 0), (3, 1))), 6)
        self.assertEqual(round_of(((3, 1), (2, 0), (5, 4))), 15)
        self.assertEqual(round_of(((3, 0), (4, 0))), 6)
        self.assertEqual(round_of(((2, 0),) * 8), 256)
        self.assertEqual(round_of(((1000, 0),) * 8), 1000 ** 8)

    def hold(self, row, length):
        told = round_of(row)
        self.assertIs(type(told), int)
        takers = takers_of(row, 2 * length)
        self.assertEqual(takers[:length], takers[length:])
        fewer = [few for few in range(1, length) if takers[few:few + length] == takers[:length]]
        self.assertEqual(told, min(fewer + [length]), row)

    def test_all_short_rows_piece_by_piece(self):
        for row in all_short_rows(2, 6) + all_short_rows(3, 3):
            self.hold(row, back_at_first(row, 1000))

    def test_chosen_rows_piece_by_piece(self):
        held = 0
        for row in some_rows(40, 5, seed=9) + some_rows(40, 12, seed=10):
            length = back_at_first(row, 3000)
            if length is not None:
                held += 1
                self.hold(row, length)
        self.assertGreater(held, 200)

    def test_long_rounds_and_no_fewer(self):
        for row in any_rows():
            told = round_of(row)
            self.assertTrue(goes_round(row, told), row)
            for prime in primes_of(told):
                self.assertFalse(goes_round(row, told // prime), (row, prime))

    def test_longest(self):
        everies = (1000, 999, 997, 991, 983, 977, 971, 967)
        row = tuple((every, every - 1) for every in everies)
        told = round_of(row)
        self.assertGreater(told, FAR)
        self.assertTrue(goes_round(row, told))
        self.assertEqual(told, math.lcm(*[share.denominator for share in fractions_of(row)]))

    def test_each_piece_is_taken_as_that_a_round_ahead(self):
        rng = random.Random(11)
        for row in any_rows():
            length = round_of(row)
            if 2 * length > FAR:
                continue
            for _ in range(40):
                piece = rng.randint(1, FAR - length)
                self.assertEqual(who(row, piece), who(row, piece + length), (row, piece))
            for piece in range(1, 20):
                self.assertEqual(who(row, piece), who(row, piece + length), (row, piece))

    def test_what_they_had_counted_does_not_matter(self):
        rng = random.Random(12)
        for row in any_rows():
            changed = tuple((every, rng.randrange(every)) for every, counted in row)
            self.assertEqual(round_of(row), round_of(changed))


class Parts(unittest.TestCase):

    def test_worked(self):
        self.assertEqual(parts(()), [(1, 1)])
        self.assertEqual(parts(((2, 0),)), [(1, 2), (1, 2)])
        self.assertEqual(parts(((1000, 7),)), [(1, 1000), (999, 1000)])
        self.assertEqual(parts(((3, 1), (2, 0), (5, 4))), [(1, 3), (1, 3), (1, 15), (4, 15)])
        self.assertEqual(parts(((3, 0), (4, 0))), [(1, 3), (1, 6), (1, 2)])
        self.assertEqual(parts(((2, 0),) * 8)[-2:], [(1, 256), (1, 256)])

    def test_lowest_terms_and_kinds(self):
        for row in any_rows() + all_short_rows(2, 6):
            told = parts(row)
            self.assertIs(type(told), list)
            self.assertEqual(len(told), len(row) + 1)
            for share in told:
                self.assertIs(type(share), tuple)
                self.assertEqual([type(number) for number in share], [int, int])
                top, bottom = share
                self.assertGreaterEqual(top, 1)
                self.assertGreaterEqual(bottom, 1)
                self.assertEqual(math.gcd(top, bottom), 1, (row, share))

    def test_held_against_fractions(self):
        for row in any_rows() + all_short_rows(2, 6):
            told = [Fraction(top, bottom) for top, bottom in parts(row)]
            self.assertEqual(told, fractions_of(row), row)
            self.assertEqual(sum(told), 1)

    def test_parts_of_a_round_piece_by_piece(self):
        for row in all_short_rows(2, 6) + all_short_rows(3, 3):
            length = back_at_first(row, 1000)
            took = tally(row, takers_of(row, length))
            self.assertEqual([Fraction(top, bottom) * length for top, bottom in parts(row)], took, row)

    def test_parts_times_a_round_is_what_is_taken_of_a_round(self):
        held = 0
        for row in any_rows():
            length = round_of(row)
            if length > FAR:
                continue
            held += 1
            expected = [top * length // bottom for top, bottom in parts(row)]
            self.assertEqual(taken(row, length), expected, row)
            self.assertEqual([top * length % bottom for top, bottom in parts(row)], [0] * len(expected))
            if 3 * length <= FAR:
                self.assertEqual(taken(row, 3 * length), [3 * number for number in expected])
        self.assertGreater(held, 200)

    def test_what_they_had_counted_does_not_matter(self):
        rng = random.Random(13)
        for row in any_rows():
            changed = tuple((every, rng.randrange(every)) for every, counted in row)
            self.assertEqual(parts(row), parts(changed))

    def test_two_neighbours_who_change_places(self):
        rng = random.Random(14)
        for row in any_rows():
            if len(row) < 2:
                continue
            at = rng.randrange(len(row) - 1)
            changed = row[:at] + (row[at + 1], row[at]) + row[at + 2:]
            before = [Fraction(*share) for share in parts(row)]
            after = [Fraction(*share) for share in parts(changed)]
            self.assertEqual(before[:at], after[:at])
            self.assertEqual(before[at] + before[at + 1], after[at] + after[at + 1])
            self.assertEqual(before[at + 2:], after[at + 2:])

    def test_left_over_is_the_same_part_in_any_order(self):
        rng = random.Random(15)
        for many in range(9):
            row = row_of(rng, many, 1000)
            shuffled = list(row)
            rng.shuffle(shuffled)
            self.assertEqual(parts(row)[-1], parts(tuple(shuffled))[-1])

    def test_the_list_told_is_a_new_one(self):
        for row in ((), ((3, 1), (2, 0))):
            first = parts(row)
            second = parts(row)
            self.assertEqual(first, second)
            self.assertIsNot(first, second)
            first[0] = None
            first.append(None)
            self.assertEqual(parts(row), second)


if __name__ == "__main__":
    unittest.main()
