"""Orders: how takers must stand so that each takes a told number."""

from takenth.checks import check_number, is_whole
from takenth.errors import NoCounts, TooMany
from takenth.rows import MOST_PIECES, check_row

MOST_ORDERED = 6


def is_counts(thing, many):
    """Tell whether a thing is a list with a count for each of so many takers."""
    if not isinstance(thing, list) or len(thing) != many:
        return False
    return all([is_whole(part, 0, MOST_PIECES) for part in thing])


def orders_for(row, number, counts):
    """Tell all orders of the takers by which each takes of so many pieces just their count."""
    check_row(row)
    check_number(number, 0, MOST_PIECES)
    if not is_counts(counts, len(row)):
        raise NoCounts("not a list with a count for each taker")
    if len(row) > MOST_ORDERED:
        raise TooMany(MOST_ORDERED)
    return orders_behind((), row, number, counts)


def orders_behind(ahead, row, coming, counts):
    """Tell all orders that begin with those ahead, behind whom so many pieces still come."""
    if len(ahead) == len(row):
        return [ahead]
    told = []
    # The places are gone through as they rise, so the orders rise, too.
    for place, (every, counted) in enumerate(row):
        took = (counted + coming) // every
        if place not in ahead and took == counts[place]:
            told.extend(orders_behind(ahead + (place,), row, coming - took, counts))
    return told
