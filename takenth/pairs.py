"""Two rows: by which piece they first come to something unlike."""

from takenth.errors import Unlike
from takenth.rows import check_row, piece_behind


def parted(one, other):
    """Tell the least piece that is not taken by the same place of both rows, None for none."""
    check_row(one)
    check_row(other)
    if len(one) != len(other):
        raise Unlike("two rows that have not as many takers")
    pieces = []
    for place in range(len(one)):
        coming = taken_unlike(one[place], other[place])
        # Up to the least piece that parts the rows the same pieces come to each
        # place of both, so it does not matter for the least through which row.
        if coming is not None:
            pieces.append(piece_behind(one[:place], coming))
    return min(pieces, default=None)


def taken_unlike(one, other):
    """Tell which piece that comes to both is the first that just one of two takers takes."""
    if one == other:
        return None
    first_of_one = one[0] - one[1]
    first_of_other = other[0] - other[1]
    if first_of_one != first_of_other:
        return min(first_of_one, first_of_other)
    return first_of_one + min(one[0], other[0])
