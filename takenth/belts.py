"""A belt kept as takers come, go and change places."""

from takenth.checks import check_number, is_whole
from takenth.errors import Full, NoPlace, NoTaker
from takenth.rows import MOST_TAKERS, is_taker, taken

MOST_AT_ONCE = 10 ** 12


def check_place(row, thing):
    """Refuse anything but the place of a taker of the row."""
    if not is_whole(thing, 0, len(row) - 1):
        raise NoPlace("not the place of a taker")


def counted_on(row, number):
    """Tell the row with what each has counted behind so many pieces more."""
    told = []
    coming = number
    for every, counted in row:
        took, count = divmod(counted + coming, every)
        told.append((every, count))
        coming -= took
    return tuple(told)


class Belt:
    """A belt, and the takers who stand beside it now."""

    def __init__(self):
        self.takers = ()
        self.pieces = 0
        self.passed = 0

    def go_by(self, number):
        """Let so many pieces go by; tell how many each one took and, last, how many were left over."""
        check_number(number, 1, MOST_AT_ONCE)
        told = taken(self.takers, number)
        self.takers = counted_on(self.takers, number)
        self.pieces += number
        self.passed += told[-1]
        return told

    def come(self, taker):
        """Let a taker come, behind the others."""
        if not is_taker(taker):
            raise NoTaker("not a taker")
        if len(self.takers) == MOST_TAKERS:
            raise Full(f"{MOST_TAKERS} takers are there")
        self.takers += (taker,)

    def leave(self, place):
        """Let a taker go; those behind move up."""
        check_place(self.takers, place)
        self.takers = self.takers[:place] + self.takers[place + 1:]

    def change(self, place, other):
        """Let two takers change places."""
        check_place(self.takers, place)
        check_place(self.takers, other)
        standing = list(self.takers)
        standing[place], standing[other] = standing[other], standing[place]
        self.takers = tuple(standing)

    def row(self):
        """Tell the row as it is now, each with what they have counted by then."""
        return self.takers

    def gone(self):
        """Tell how many pieces went by in all."""
        return self.pieces

    def left_over(self):
        """Tell how many pieces were left over in all."""
        return self.passed

    def __len__(self):
        return len(self.takers)

    def __eq__(self, other):
        if not isinstance(other, Belt):
            return False
        return (self.takers, self.pieces, self.passed) == (other.takers, other.pieces, other.passed)
