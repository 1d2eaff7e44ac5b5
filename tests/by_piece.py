"""What the tests hold the program against: rows gone piece by piece, and things that are none."""

import random


class Gone:
    """A row gone piece by piece, as the document words it."""

    def __init__(self, row):
        self.every = [every for every, counted in row]
        self.counts = [counted for every, counted in row]

    def next_piece(self):
        """Let one piece come to taker 0; the place of who takes it, or None."""
        for place, every in enumerate(self.every):
            self.counts[place] += 1
            if self.counts[place] == every:
                self.counts[place] = 0
                return place
        return None


def takers_of(row, number):
    """Who takes each of the pieces from 1 to number."""
    gone = Gone(row)
    return [gone.next_piece() for _ in range(number)]


def tally(row, takers):
    """How many each one took, and how many were left over, of what takers_of told."""
    return [takers.count(place) for place in range(len(row))] + [takers.count(None)]


def row_of(rng, many, most_every):
    """A row of so many takers, chosen by rng."""
    everies = [rng.randint(2, most_every) for _ in range(many)]
    return tuple((every, rng.randrange(every)) for every in everies)


def some_rows(each, most_every, seed=1):
    """For each length from 0 to 8, so many rows; the same ones each time."""
    rng = random.Random(seed)
    return [row_of(rng, many, most_every) for many in range(9) for _ in range(each)]


def all_short_rows(most_takers, most_every):
    """All rows of at most so many takers of at most that every."""
    takers = [(every, counted) for every in range(2, most_every + 1) for counted in range(every)]
    rows = [()]
    longest = [()]
    for _ in range(most_takers):
        longest = [row + (taker,) for row in longest for taker in takers]
        rows += longest
    return rows


def back_at_first(row, most):
    """The pieces behind which all have counted what they had at first, None if more than most."""
    gone = Gone(row)
    first = list(gone.counts)
    for number in range(1, most + 1):
        gone.next_piece()
        if gone.counts == first:
            return number
    return None


def within(thing, depth, kind):
    """A thing within so many lists or tuples."""
    for _ in range(depth):
        thing = kind([thing])
    return thing


SIGNS = "".join(chr(sign) for sign in range(32, 127))

# Neither a row, nor a number, nor a place, whatever the bounds are.
NOTHINGS = [
    True, False, "", "0", "1", "2", "ab", " ", SIGNS, "~" * 100,
    [], [0], [1], [2, 0], [(2, 0)], [[2, 0]], [None], [True], [""], [[]], [()],
    (0,), (1,), (None,), (True,), (False,), ("",), ((),), ([],), ("ab",), ("ab", "cd"),
    (2, 0), (3, 1), (1, 1), (0, 0), (None, None), (True, False), ("2", "0"), ([2], [0]),
    ([2, 0],), ((2, 0), [2, 0]), ((2, 0), None), ((2, 0), 2), ((2, 0), "ab"), (((2, 0),),),
    ((2, 0), ()), ((2,),), ((2, 0, 0),), ((2, 0), (3,)), ((2, 0), (3, 1, 1)),
    ((2, None),), ((None, 0),), ((2, "0"),), (("2", 0),), ((2, (0,)),), (((2,), 0),), ((2, [0]),), (([2], 0),),
    ((2, True),), ((2, False),), ((True, 0),), ((False, 0),), ((True, False),), ((True, True),),
    [0] * 300, (0,) * 300, ((2, 0),) * 300, [(2, 0)] * 300, ((2, 0),) * 9,
    10 ** 39, -(10 ** 39), 10 ** 40 - 1, -(10 ** 40 - 1),
    ((10 ** 39, 0),), ((2, 10 ** 39),), ((2, -(10 ** 39)),), ((-(10 ** 39), 0),),
    within(2, 10, tuple), within(2, 10, list), within((), 9, tuple), within([], 9, list), within((2, 0), 9, tuple),
]
