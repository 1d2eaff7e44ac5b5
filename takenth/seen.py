"""Takers told back: which takers fit what was seen, and how long one must look to know them."""

from takenth.checks import check_number, is_whole
from takenth.errors import NoRow, NoSeen
from takenth.rows import LEAST_EVERY, MOST_TAKERS, check_row, piece_behind

MOST_SEEN = 200
MOST_EVERY_SEEN = 40


def is_seen(thing):
    """Tell whether a thing is something seen, a tuple of places and Nones."""
    if not isinstance(thing, tuple) or len(thing) > MOST_SEEN:
        return False
    return all([part is None or is_whole(part, 0, MOST_TAKERS - 1) for part in thing])


def check_seen(thing):
    """Refuse anything but something seen."""
    if not is_seen(thing):
        raise NoSeen("not a tuple of places and Nones")


def check_places(seen, many):
    """Refuse what was seen where it names a place that so many takers do not have."""
    if any([place is not None and place >= many for place in seen]):
        raise NoSeen(f"a place that {many} takers do not have")


def check_knowable(row):
    """Refuse anything but a row that can be known by what is seen of it."""
    check_row(row)
    if not row or any([taker[0] > MOST_EVERY_SEEN for taker in row]):
        raise NoRow(f"no takers, or one of an every above {MOST_EVERY_SEEN}")


def fits(seen, many):
    """Tell for each of so many takers all takers that take just what was seen."""
    check_seen(seen)
    check_number(many, 1, MOST_TAKERS)
    check_places(seen, many)
    told = []
    coming = list(seen)
    for place in range(many):
        told.append(takers_of_place(coming, place))
        coming = [thing for thing in coming if thing != place]
    return told


def takers_of_place(coming, place):
    """Tell all takers, rising, that take of the pieces coming to them those of the place."""
    seen_taken = [at for at, thing in enumerate(coming, start=1) if thing == place]
    told = []
    for every in range(LEAST_EVERY, MOST_EVERY_SEEN + 1):
        for counted in range(every):
            if list(range(every - counted, len(coming) + 1, every)) == seen_taken:
                told.append((every, counted))
    return told


def known_by(row):
    """Tell how many pieces must be seen at least so that no other row fits."""
    check_knowable(row)
    # What fits a taker hangs only on what came to them, so each is known for
    # themselves, and the row with the last of them.
    return max([piece_behind(row[:place], pieces_to_know(taker)) for place, taker in enumerate(row)])


def pieces_to_know(taker):
    """Tell how many pieces must come to a taker so that no other one fits."""
    every, counted = taker
    first = every - counted
    # Nobody lets more than the most less one pass ahead of their first piece,
    # and only one taker lets so many: they need not be seen to take at all.
    if first == MOST_EVERY_SEEN:
        return first - 1
    # Likewise nobody lets more pass between two: the second need not be seen.
    if every == MOST_EVERY_SEEN:
        return first + every - 1
    return first + every
