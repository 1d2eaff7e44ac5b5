"""Rounds and parts: when the taking comes round, and what part of all each one takes."""

from takenth.rows import check_row


def common_divisor(one, other):
    """Tell the greatest whole number that divides both."""
    while other:
        one, other = other, one % other
    return one


def lowest(top, bottom):
    """Tell a fraction in lowest terms."""
    common = common_divisor(top, bottom)
    return (top // common, bottom // common)


def round_of(row):
    """Tell the least number of pieces behind which all goes on as from the first."""
    check_row(row)
    length = 1
    # Each is back at what they had counted just where their part of the pieces
    # is a whole number of pieces, so each bottom must divide the round.
    for share in parts(row):
        bottom = share[1]
        length = length // common_divisor(length, bottom) * bottom
    return length


def parts(row):
    """Tell what part of all pieces each one takes and, last, what part is left over."""
    check_row(row)
    told = []
    top = 1
    bottom = 1
    for taker in row:
        every = taker[0]
        bottom *= every
        told.append(lowest(top, bottom))
        top *= every - 1
    told.append(lowest(top, bottom))
    return told
