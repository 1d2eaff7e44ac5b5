"""Points 3, 8 and 9: which takers fit what was seen, and how long one must look to know them."""

import itertools
import math
import random
import unittest

from by_piece import Gone, all_short_rows, row_of, takers_of
from takenth.errors import NoNumber, NoSeen
from takenth.rows import who
from takenth.seen import fits, known_by

ALL_TAKERS = [(every, counted) for every in range(2, 41) for counted in range(every)]


def takes_just(taker, takes):
    """Whether a taker, gone piece by piece, takes just where takes is True."""
    every, count = taker
    for take in takes:
        count += 1
        if (count == every) != take:
            return False
        if count == every:
            count = 0
    return True


def fits_by_piece(seen, many):
    """What fits, each of all takers gone piece by piece."""
    told = []
    for place in range(many):
        # A place below this one took the piece ahead; it did not come here.
        takes = [thing == place for thing in seen if thing is None or thing >= place]
        told.append([taker for taker in ALL_TAKERS if takes_just(taker, takes)])
    return told


def known_by_piece(row):
    """How long one must look, all takers that still fit at each place gone on with each piece."""
    left = [{taker: taker[1] for taker in ALL_TAKERS} for _ in row]
    gone = Gone(row)
    pieces = 0
    while any(len(counts) > 1 for counts in left):
        pieces += 1
        taker = gone.next_piece()
        for place, counts in enumerate(left):
            if taker is not None and taker < place:
                break
            for other in list(counts):
                counts[other] += 1
                if (counts[other] == other[0]) != (taker == place):
                    del counts[other]
                elif taker == place:
                    counts[other] = 0
    return pieces


def drawn_rows(each, most_every, seed):
    """For each length from 1 to 8, so many rows."""
    rng = random.Random(seed)
    return [row_of(rng, many, most_every) for many in range(1, 9) for _ in range(each)]


class Worked(unittest.TestCase):

    def test_by_hand(self):
        self.assertEqual(fits((0, None, 0), 1), [[(2, 1)]])
        self.assertEqual(fits((None, 0, None), 1), [[(every, every - 2) for every in range(2, 41)]])
        self.assertEqual(fits((0, 0), 1), [[]])
        self.assertEqual(fits((0, 0), 2), [[], ALL_TAKERS])
        self.assertEqual(fits((1, 0, 1, 0), 2)[0], [(2, 0)])
        self.assertEqual(fits((1, 0, 1, 0), 2)[1], [])
        self.assertEqual(fits((None,) * 39, 1), [[(40, 0)]])
        self.assertEqual(fits((None,) * 38, 1), [[(39, 0), (40, 0), (40, 1)]])
        self.assertEqual(fits((None,) * 40, 1), [[]])

    def test_nothing_seen(self):
        for many in range(1, 9):
            self.assertEqual(fits((), many), [ALL_TAKERS] * many)
        self.assertEqual(len(ALL_TAKERS), 819)

    def test_one_seen(self):
        for many in range(1, 9):
            for thing in [None] + list(range(many)):
                self.assertEqual(fits((thing,), many), fits_by_piece((thing,), many), (thing, many))


class HeldAgainstAllPairs(unittest.TestCase):

    def hold(self, seen, many):
        told = fits(seen, many)
        self.assertEqual(told, fits_by_piece(seen, many), (seen, many))
        self.assertIs(type(told), list)
        self.assertEqual(len(told), many)
        for takers in told:
            self.assertIs(type(takers), list)
            self.assertEqual(takers, sorted(set(takers)))
            for taker in takers:
                self.assertIs(type(taker), tuple)
                self.assertEqual([type(number) for number in taker], [int, int])

    def test_all_short_seen(self):
        for many in (1, 2, 3):
            for length in range(6 - many + 1):
                for seen in itertools.product([None] + list(range(many)), repeat=length):
                    self.hold(seen, many)

    def test_what_is_seen_of_drawn_rows(self):
        rng = random.Random(21)
        for row in drawn_rows(6, 5, 22) + drawn_rows(6, 40, 23):
            seen = tuple(takers_of(row, rng.choice((1, 7, 30, 80, 199, 200))))
            self.hold(seen, len(row))
            for taker, takers in zip(row, fits(seen, len(row))):
                self.assertIn(taker, takers)

    def test_one_place_changed(self):
        rng = random.Random(24)
        for row in drawn_rows(6, 5, 25) + drawn_rows(6, 40, 26):
            seen = takers_of(row, rng.randint(1, 200))
            at = rng.randrange(len(seen))
            seen[at] = rng.choice([thing for thing in [None] + list(range(len(row))) if thing != seen[at]])
            self.hold(tuple(seen), len(row))

    def test_drawn_at_will(self):
        rng = random.Random(27)
        for many in range(1, 9):
            for length in (1, 2, 3, 5, 9, 40, 199, 200):
                self.hold(tuple(rng.choice([None] + list(range(many))) for _ in range(length)), many)

    def test_each_taker_alone(self):
        for taker in ALL_TAKERS:
            for length in (taker[0] - taker[1], 80):
                seen = tuple(takers_of((taker,), length))
                self.assertIn(taker, fits(seen, 1)[0])
            self.assertEqual(fits(tuple(takers_of((taker,), 80)), 1), [[taker]])

    def test_an_every_above_40_does_not_fit(self):
        for every in (41, 42, 100, 1000):
            self.assertEqual(fits(tuple(takers_of(((every, every - 1),), every + 1))[:200], 1), [[]])
        self.assertEqual(fits(tuple(takers_of(((41, 0),), 82)), 1), [[]])
        self.assertEqual(fits(tuple(takers_of(((40, 0),), 82)), 1), [[(40, 0)]])

    def test_more_takers_than_were_seen(self):
        for row in drawn_rows(2, 6, 28):
            seen = tuple(takers_of(row, 60))
            for many in range(len(row), 9):
                self.hold(seen, many)


class FreeOfTheOthers(unittest.TestCase):

    def test_each_row_put_together_fits(self):
        rng = random.Random(31)
        for row in drawn_rows(10, 40, 32) + drawn_rows(10, 6, 33):
            seen = takers_of(row, rng.choice((0, 1, 5, 20, 60, 150)))
            told = fits(tuple(seen), len(row))
            for _ in range(10):
                other = tuple(rng.choice(takers) for takers in told)
                self.assertEqual(takers_of(other, len(seen)), seen, (row, other))
                self.assertEqual([who(other, piece) for piece in range(1, len(seen) + 1)], seen, (row, other))

    def test_no_other_row_fits(self):
        rng = random.Random(34)
        for row in drawn_rows(10, 40, 35) + drawn_rows(10, 6, 36):
            seen = takers_of(row, rng.choice((5, 20, 60, 150)))
            told = fits(tuple(seen), len(row))
            for place, takers in enumerate(told):
                others = [taker for taker in ALL_TAKERS if taker not in takers]
                if others:
                    other = [rng.choice(takers) for takers in told]
                    other[place] = rng.choice(others)
                    self.assertNotEqual(takers_of(tuple(other), len(seen)), seen, (row, other))

    def test_all_rows_of_two(self):
        for seen in ((), (None, 1, None), (1, None, 0, 1, None, 0)):
            told = fits(seen, 2)
            for taker in ALL_TAKERS[::5]:
                for other in ALL_TAKERS[::7]:
                    fit = taker in told[0] and other in told[1]
                    self.assertEqual(tuple(takers_of((taker, other), len(seen))) == seen, fit)


class Bounds(unittest.TestCase):

    def refused(self, error, seen, many):
        with self.subTest(seen=seen, many=many):
            with self.assertRaises(error) as caught:
                fits(seen, many)
            self.assertIs(type(caught.exception), error)

    def test_how_many_were_seen(self):
        for length in (0, 1, 199, 200):
            self.assertEqual(len(fits((None,) * length, 8)), 8)
        for length in (201, 202, 300):
            self.refused(NoSeen, (None,) * length, 8)
            self.refused(NoSeen, (0, None) * (length // 2) + (None,), 8)

    def test_places(self):
        for place in (0, 1, 6, 7, None):
            self.assertEqual(len(fits((None, place), 8)), 8)
        for place in (-1, -2, 8, 9, True, False, "0", (), [], (0,), 10 ** 40 - 1):
            for seen in ((place,), (None, place), (place, 0), (0,) * 199 + (place,)):
                self.refused(NoSeen, seen, 8)

    def test_how_many_takers(self):
        for many in (1, 8):
            self.assertEqual(len(fits((0,), many)), many)
        for many in (0, 9, -1, 10, True, False, None, "1", (1,), [1]):
            self.refused(NoNumber, (), many)
            self.refused(NoNumber, (0, None), many)

    def test_a_place_that_is_not_below_how_many_there_are(self):
        for place in range(8):
            for many in range(1, 9):
                for seen in ((place,), (None, place), (place, None), (0, None, place)):
                    if place >= many:
                        self.refused(NoSeen, seen, many)
                    else:
                        self.assertEqual(len(fits(seen, many)), many)

    def test_which_refusal_goes_first(self):
        for many in (0, 9, True, None, "1"):
            # A place too far for any number of takers that there may be is no place seen at all.
            self.refused(NoSeen, (8,), many)
            self.refused(NoSeen, [0], many)
            self.refused(NoSeen, (True,), many)
            self.refused(NoNumber, (7,), many)
            self.refused(NoNumber, (0, 7), many)
            self.refused(NoNumber, (0,), many)

    def test_lists_are_nothing_seen(self):
        for seen in ([], [0], [None], [0, None, 0], "", "0", None, 0, True, {}):
            self.refused(NoSeen, seen, 1)


class AskersOwn(unittest.TestCase):

    def test_each_list_is_a_new_one(self):
        for seen, many in (((), 8), ((None, 0, None), 3), ((0, 0), 2), ((0, None, 0), 1)):
            first, second = fits(seen, many), fits(seen, many)
            self.assertEqual(first, second)
            lists = [first, second] + first + second
            self.assertEqual(len({id(one) for one in lists}), len(lists))
            for takers in first:
                takers.append(None)
                takers[0] = None
            first.clear()
            self.assertEqual(fits(seen, many), second)

    def test_one_list_changed_changes_no_other(self):
        told = fits((), 3)
        told[0].clear()
        self.assertEqual(told[1:], [ALL_TAKERS, ALL_TAKERS])

    def test_what_is_handed_in_stays_as_it_is(self):
        seen, row = (None, 1, 0, None), ((40, 3), (2, 1))
        fits(seen, 2)
        known_by(row)
        self.assertEqual((seen, row), ((None, 1, 0, None), ((40, 3), (2, 1))))


class KnownBy(unittest.TestCase):

    def hold(self, row):
        told = known_by(row)
        self.assertIs(type(told), int)
        self.assertEqual(told, known_by_piece(row), row)
        if told <= 200:
            seen = tuple(takers_of(row, told))
            self.assertEqual(fits(seen, len(row)), [[taker] for taker in row])
            self.assertGreater(math.prod(len(takers) for takers in fits(seen[:-1], len(row))), 1, row)

    def test_worked(self):
        self.assertEqual(known_by(((2, 0),)), 4)
        self.assertEqual(known_by(((2, 1),)), 3)
        self.assertEqual(known_by(((39, 0),)), 78)
        self.assertEqual(known_by(((39, 38),)), 40)
        self.assertEqual(known_by(((40, 0),)), 39)
        self.assertEqual(known_by(((40, 1),)), 78)
        self.assertEqual(known_by(((40, 39),)), 40)
        self.assertEqual(known_by(((2, 0), (2, 0))), 7)
        self.assertEqual(known_by(((2, 1), (2, 0))), 8)

    def test_each_taker_alone(self):
        for taker in ALL_TAKERS:
            self.hold((taker,))

    def test_all_short_rows(self):
        for row in all_short_rows(2, 4) + all_short_rows(3, 3):
            if row:
                self.hold(row)

    def test_drawn_rows(self):
        for row in drawn_rows(6, 40, 41) + drawn_rows(6, 7, 42):
            self.hold(row)

    def test_rows_with_an_every_of_40(self):
        rng = random.Random(43)
        for many in range(1, 9):
            for taker in ((40, 0), (40, 1), (40, 20), (40, 39), (39, 0), (39, 38), (2, 0), (2, 1)):
                row = list(row_of(rng, many, 40))
                row[rng.randrange(many)] = taker
                self.hold(tuple(row))
                self.hold((taker,) * many)

    def test_the_longest_look(self):
        row = ((2, 0),) * 7 + ((39, 0),)
        self.hold(row)
        self.assertEqual(known_by(row), 128 * 77 + 1)


if __name__ == "__main__":
    unittest.main()
