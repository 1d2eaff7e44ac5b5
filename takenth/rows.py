"""Rows of takers: who takes a piece, how many each one took, and which piece is taken when."""

from takenth.checks import check_number, is_whole
from takenth.errors import NoRow, NoTaker

MOST_TAKERS = 8
LEAST_EVERY = 2
MOST_EVERY = 1000
MOST_PIECES = 10 ** 18
MOST_TAKEN = 10 ** 12


def is_taker(thing):
    """Tell whether a thing is a taker, a pair (every, counted)."""
    if not isinstance(thing, tuple) or len(thing) != 2:
        return False
    every, counted = thing
    return is_whole(every, LEAST_EVERY, MOST_EVERY) and is_whole(counted, 0, every - 1)


def is_row(thing):
    """Tell whether a thing is a row, a tuple of takers."""
    if not isinstance(thing, tuple) or len(thing) > MOST_TAKERS:
        return False
    return all([is_taker(part) for part in thing])


def check_row(thing):
    """Refuse anything but a row."""
    if not is_row(thing):
        raise NoRow("not a row of takers")


def check_taker(row, thing):
    """Refuse anything but a place of the row, or None."""
    if thing is not None and not is_whole(thing, 0, len(row) - 1):
        raise NoTaker("neither a place of the row nor None")


def who(row, piece):
    """Tell the place of who takes the piece, None where it is left over."""
    check_row(row)
    check_number(piece, 1, MOST_PIECES)
    coming = piece
    for place, (every, counted) in enumerate(row):
        took, count = divmod(counted + coming, every)
        if count == 0:
            return place
        coming -= took
    return None


def taken(row, number):
    """Tell how many of so many pieces each one took and, last, how many were left over."""
    check_row(row)
    check_number(number, 0, MOST_PIECES)
    told = []
    coming = number
    for every, counted in row:
        took = (counted + coming) // every
        told.append(took)
        coming -= took
    told.append(coming)
    return told


def piece_of(row, taker, number):
    """Tell which piece a taker takes as their so-manieth, or which one is left over, for None."""
    check_row(row)
    check_taker(row, taker)
    check_number(number, 1, MOST_TAKEN)
    if taker is None:
        return piece_behind(row, number)
    every, counted = row[taker]
    return piece_behind(row[:taker], number * every - counted)


def piece_behind(row, number):
    """Tell which piece is the so-manieth that no taker of the row takes."""
    piece = number
    for every, counted in reversed(row):
        # What was counted at first had passed, too. Numbered on from there, one
        # piece is taken behind each every - 1 that pass.
        passed = counted + piece
        piece += (passed - 1) // (every - 1)
    return piece
