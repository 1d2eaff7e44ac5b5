"""Points 2, 3 and 12: a belt kept as takers come, go and change places."""

import copy
import random
import unittest

from by_piece import NOTHINGS, row_of, some_rows
from takenth.belts import Belt
from takenth.errors import Full, NoNumber, NoPlace, NoTaker
from takenth.rows import is_row, taken

LATE = 10 ** 12

NO_NUMBERS = NOTHINGS + [None, (), 0, -1, -LATE, LATE + 1, LATE + 2, 10 ** 18, ((2, 0),)]
NO_TAKERS = [
    None, True, False, 0, 2, "", "ab", [], (), [2, 0], [(2, 0)], ((2, 0),), (2,), (2, 0, 0), (1, 0), (0, 0), (-2, 0),
    (1001, 0), (1000, 1000), (2, 2), (2, -1), (True, 0), (2, True), (2, False), (None, 0), (2, None), ("2", 0),
    (2, "0"), ((2,), 0), (2, (0,)), (10 ** 39, 0), (2, 10 ** 39), (2,) * 300,
]


def no_places(many):
    """What is not the place of one of so many takers."""
    return NOTHINGS + [None, (), -1, -2, -many - 1, many, many + 1, 8, 9, 10 ** 18, ((2, 0),)]


class ByPiece:
    """A belt gone piece by piece, as the document words it."""

    def __init__(self):
        self.takers = []
        self.pieces = 0
        self.left = 0

    def next_piece(self):
        self.pieces += 1
        for place, taker in enumerate(self.takers):
            taker[1] += 1
            if taker[1] == taker[0]:
                taker[1] = 0
                return place
        self.left += 1
        return None

    def go_by(self, number):
        takers = [self.next_piece() for _ in range(number)]
        return [takers.count(place) for place in range(len(self.takers))] + [takers.count(None)]

    def come(self, taker):
        self.takers.append(list(taker))

    def leave(self, place):
        del self.takers[place]

    def change(self, place, other):
        self.takers[place], self.takers[other] = self.takers[other], self.takers[place]

    def told(self):
        return tuple(tuple(taker) for taker in self.takers), self.pieces, self.left, len(self.takers)


def told_by(belt):
    """All that a belt tells."""
    return belt.row(), belt.gone(), belt.left_over(), len(belt)


def belt_of(row, *numbers):
    """A belt beside which a row of takers stands, and so many pieces have gone by."""
    belt = Belt()
    for taker in row:
        belt.come(taker)
    for number in numbers:
        belt.go_by(number)
    return belt


def drawn_deed(rng, many, most_every):
    """A deed that is not refused where so many takers are: its name and its arguments."""
    names = ["go_by", "go_by"]
    if many < 8:
        names += ["come", "come"]
    if many:
        names += ["leave", "change", "change"]
    name = rng.choice(names)
    if name == "go_by":
        return name, [rng.choice((1, 2, 3, rng.randint(1, 60)))]
    if name == "come":
        return name, [row_of(rng, 1, most_every)[0]]
    return name, [rng.randrange(many) for _ in range(1 if name == "leave" else 2)]


class BeltCase(unittest.TestCase):

    def refused(self, error, belt, name, *arguments):
        before, handed = told_by(belt), repr(copy.deepcopy(arguments))
        with self.subTest(name=name, arguments=arguments):
            with self.assertRaises(error) as caught:
                getattr(belt, name)(*arguments)
            self.assertIs(type(caught.exception), error)
            self.assertEqual(told_by(belt), before)
            self.assertEqual(repr(arguments), handed)


class Worked(BeltCase):

    def test_at_first(self):
        belt = Belt()
        self.assertEqual(told_by(belt), ((), 0, 0, 0))
        self.assertEqual(belt, Belt())

    def test_by_hand(self):
        belt = Belt()
        self.assertEqual(belt.go_by(2), [2])
        self.assertIsNone(belt.come((3, 1)))
        self.assertIsNone(belt.come((2, 0)))
        self.assertEqual(belt.row(), ((3, 1), (2, 0)))
        self.assertEqual(belt.go_by(4), [1, 1, 2])
        self.assertEqual(told_by(belt), (((3, 2), (2, 1)), 6, 4, 2))
        self.assertIsNone(belt.change(0, 1))
        self.assertEqual(belt.row(), ((2, 1), (3, 2)))
        self.assertEqual(belt.go_by(1), [1, 0, 0])
        self.assertEqual(told_by(belt), (((2, 0), (3, 2)), 7, 4, 2))
        self.assertIsNone(belt.leave(0))
        self.assertEqual(told_by(belt), (((3, 2),), 7, 4, 1))
        self.assertEqual(belt.go_by(1), [1, 0])
        self.assertIsNone(belt.leave(0))
        self.assertEqual(told_by(belt), ((), 8, 4, 0))
        self.assertEqual(belt.go_by(LATE), [LATE])
        self.assertEqual(told_by(belt), ((), 8 + LATE, 4 + LATE, 0))

    def test_those_behind_move_up(self):
        row = tuple((place + 2, place) for place in range(8))
        for place in range(8):
            belt = belt_of(row)
            belt.leave(place)
            self.assertEqual(belt.row(), row[:place] + row[place + 1:])
            belt.come((1000, 999))
            self.assertEqual(belt.row(), row[:place] + row[place + 1:] + ((1000, 999),))

    def test_two_change_places(self):
        row = tuple((place + 2, place) for place in range(8))
        for place in range(8):
            for other in range(8):
                belt = belt_of(row)
                belt.change(place, other)
                expected = list(row)
                expected[place], expected[other] = row[other], row[place]
                self.assertEqual(belt.row(), tuple(expected))
                if place == other:
                    self.assertEqual(belt, belt_of(row))
                belt.change(other, place)
                self.assertEqual(belt, belt_of(row))


class DeedByDeed(BeltCase):

    def test_held_against_one_gone_piece_by_piece(self):
        for seed in range(60):
            rng = random.Random(seed)
            belt, held = Belt(), ByPiece()
            most_every = rng.choice((2, 4, 12, 1000))
            for _ in range(80):
                name, arguments = drawn_deed(rng, len(held.takers), most_every)
                told, expected = getattr(belt, name)(*arguments), getattr(held, name)(*arguments)
                self.assertEqual(told, expected, (seed, name, arguments))
                self.assertEqual(told_by(belt), held.told(), (seed, name, arguments))
                self.assertIs(is_row(belt.row()), True)

    def test_refused_deeds_between(self):
        wrong = [
            (NoNumber, "go_by", (0,)), (NoNumber, "go_by", (True,)), (NoTaker, "come", ((2, 2),)),
            (NoPlace, "leave", (8,)), (NoPlace, "leave", (-1,)), (NoPlace, "change", (0, 8)), (NoPlace, "change", (8, 0)),
        ]
        rng = random.Random(71)
        belt, held = Belt(), ByPiece()
        for _ in range(200):
            error, name, arguments = rng.choice(wrong)
            self.refused(error, belt, name, *arguments)
            name, arguments = drawn_deed(rng, len(held.takers), 6)
            self.assertEqual(getattr(belt, name)(*arguments), getattr(held, name)(*arguments))
            self.assertEqual(told_by(belt), held.told())

    def test_told_as_by_taken(self):
        for row in some_rows(5, 1000, seed=72):
            for number in (1, 2, 999, 10 ** 9 + 7, LATE - 1, LATE):
                belt = belt_of(row)
                told = belt.go_by(number)
                self.assertEqual(told, taken(row, number))
                self.assertEqual((belt.gone(), belt.left_over()), (number, told[-1]))
                # What each one has counted is what makes the next pieces be taken as from the first on.
                more = [late - soon for late, soon in zip(taken(row, number + 5000), told)]
                self.assertEqual(taken(belt.row(), 5000), more)

    def test_far_numbers_in_one_and_in_two(self):
        rng = random.Random(73)
        for row in some_rows(10, 1000, seed=74):
            number = rng.choice((LATE, LATE - 1, rng.randint(2, LATE)))
            first = rng.choice((1, number - 1, rng.randint(1, number - 1)))
            at_once, in_two = belt_of(row), belt_of(row)
            told = at_once.go_by(number)
            told_in_two = in_two.go_by(first), in_two.go_by(number - first)
            self.assertEqual(told, [one + other for one, other in zip(*told_in_two)])
            self.assertEqual(told_by(at_once), told_by(in_two))
            self.assertEqual(at_once, in_two)

    def test_more_than_may_go_by_at_once(self):
        row = ((3, 1), (1000, 999), (7, 0))
        belt = belt_of(row, *[LATE] * 50)
        self.assertEqual(belt.gone(), 50 * LATE)
        self.assertEqual(belt.left_over(), taken(row, 50 * LATE)[-1])


class Numbers(BeltCase):

    def test_no_number(self):
        for belt in (Belt(), belt_of(((3, 1), (2, 0)), 7)):
            for thing in NO_NUMBERS:
                self.refused(NoNumber, belt, "go_by", thing)

    def test_bounds(self):
        for row in ((), ((2, 1),), ((1000, 999),) * 8):
            for number in (0, LATE + 1):
                self.refused(NoNumber, belt_of(row), "go_by", number)
            for number in (1, LATE):
                self.assertEqual(sum(belt_of(row).go_by(number)), number)

    def test_kinds_of_what_is_told(self):
        for row in some_rows(2, 30, seed=75):
            belt = belt_of(row)
            told = belt.go_by(100)
            self.assertIs(type(told), list)
            self.assertEqual([type(number) for number in told], [int] * (len(row) + 1))
            self.assertEqual([type(belt.row()), type(belt.gone()), type(belt.left_over())], [tuple, int, int])
            self.assertEqual({type(taker) for taker in belt.row()} | {tuple}, {tuple})


class Takers(BeltCase):

    def test_no_taker(self):
        for many in (0, 1, 7):
            belt = belt_of(((3, 1),) * many, 5)
            for thing in NO_TAKERS + [thing for thing in NOTHINGS if thing not in ((2, 0), (3, 1))]:
                self.refused(NoTaker, belt, "come", thing)

    def test_bounds_of_a_taker(self):
        for taker in ((2, 0), (2, 1), (1000, 0), (1000, 999)):
            belt = Belt()
            belt.come(taker)
            self.assertEqual(belt.row(), (taker,))

    def test_a_ninth(self):
        belt = belt_of(((3, 1),) * 8, 5)
        for taker in ((2, 0), (1000, 999), (3, 1)):
            self.refused(Full, belt, "come", taker)
        belt.leave(3)
        belt.come((5, 4))
        self.assertEqual(belt.row()[7], (5, 4))
        self.refused(Full, belt, "come", (5, 4))

    def test_no_taker_goes_ahead_of_full(self):
        belt = belt_of(((3, 1),) * 8)
        for thing in NO_TAKERS:
            self.refused(NoTaker, belt, "come", thing)


class Places(BeltCase):

    def test_no_place(self):
        for many in range(9):
            belt = belt_of(((3, 1),) * many, 5)
            for thing in no_places(many):
                if type(thing) is int and 0 <= thing < many:
                    continue
                self.refused(NoPlace, belt, "leave", thing)
                self.refused(NoPlace, belt, "change", thing, thing)
                if many:
                    self.refused(NoPlace, belt, "change", 0, thing)
                    self.refused(NoPlace, belt, "change", thing, many - 1)

    def test_none_are_there(self):
        for place in (0, -1, 1):
            self.refused(NoPlace, Belt(), "leave", place)
            self.refused(NoPlace, Belt(), "change", place, place)

    def test_truths_are_no_places(self):
        belt = belt_of(((3, 1), (2, 0)))
        for truth in (True, False):
            self.refused(NoPlace, belt, "leave", truth)
            self.refused(NoPlace, belt, "change", truth, 0)
            self.refused(NoPlace, belt, "change", 0, truth)


class Equal(BeltCase):

    def equal(self, one, other):
        self.assertIs(one == other, True)
        self.assertIs(other == one, True)
        self.assertIs(one != other, False)

    def unequal(self, one, other):
        self.assertIs(one == other, False)
        self.assertIs(other == one, False)
        self.assertIs(one != other, True)

    def test_where_all_that_is_told_is(self):
        self.equal(Belt(), Belt())
        self.equal(belt_of(((3, 1),), 3), belt_of(((3, 1),), 1, 2))
        one = belt_of(((3, 1), (2, 0)))
        one.change(0, 1)
        self.equal(one, belt_of(((2, 0), (3, 1))))
        one.leave(1)
        self.equal(one, belt_of(((2, 0),)))
        self.equal(one, one)

    def test_one_of_all_that_is_told_is_another(self):
        self.unequal(Belt(), belt_of(((2, 0),)))
        self.unequal(belt_of(((2, 0),)), belt_of(((2, 1),)))
        self.unequal(belt_of(((2, 0),)), belt_of(((3, 0),)))
        self.unequal(belt_of(((2, 0), (3, 0))), belt_of(((3, 0), (2, 0))))
        self.unequal(Belt(), belt_of((), 1))
        # As many went by, and the row is the same: only what was left over is another number.
        one, other = belt_of(((2, 0),), 2), belt_of((), 2)
        other.come((2, 0))
        self.assertEqual((one.row(), one.gone()), (other.row(), other.gone()))
        self.unequal(one, other)
        # The row and what was left over are the same: only how many went by is another number.
        one, other = belt_of(((2, 1),), 1), belt_of(((2, 1),))
        other.leave(0)
        one.leave(0)
        self.assertEqual((one.row(), one.left_over()), (other.row(), other.left_over()))
        self.unequal(one, other)

    def test_nothing_else_equals_one(self):
        for belt in (Belt(), belt_of(((2, 0),), 3)):
            for thing in NOTHINGS + [None, 0, 3, (), belt.row(), told_by(belt), list(told_by(belt)), {}, object(), Belt]:
                self.unequal(belt, thing)


class AskersOwn(BeltCase):

    def test_the_list_told_is_a_new_one(self):
        for row in ((), ((3, 1), (2, 0))):
            belt = belt_of(row)
            first = belt.go_by(5)
            before = told_by(belt)
            first.append(None)
            first[0] = None
            self.assertEqual(told_by(belt), before)
            self.assertEqual(belt.go_by(5), taken(before[0], 5))

    def test_asked_again_the_same(self):
        belt = belt_of(((3, 1), (2, 0)), 7)
        self.assertEqual(told_by(belt), told_by(belt))

    def test_a_row_told_stays_as_it_was(self):
        belt = belt_of(((3, 1), (2, 0)))
        told = belt.row()
        belt.go_by(1)
        belt.change(0, 1)
        belt.leave(0)
        self.assertEqual(told, ((3, 1), (2, 0)))

    def test_belts_are_free_of_one_another(self):
        one, other = Belt(), Belt()
        one.come((2, 0))
        one.go_by(3)
        self.assertEqual(told_by(other), ((), 0, 0, 0))


if __name__ == "__main__":
    unittest.main()
