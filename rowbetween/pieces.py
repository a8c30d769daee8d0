"""Pieces of the numbers' line: tuples (low, low in, high, high in).

A piece is two ends, one behind the other. An end is a tuple (fraction, in), or
ENDLESS where the piece has none on that side.
"""

from rowbetween.fractions import less, made, plus, times

ENDLESS = (None, False)


def tighter(one, other, is_low):
    """Tell the end of what two pieces share, of their ends on one side."""
    if one[0] is None:
        return other
    if other[0] is None:
        return one
    if one[0] == other[0]:
        return (one[0], one[1] and other[1])
    return one if less(other[0], one[0]) == is_low else other


def wider(one, other, is_low):
    """Tell the end of two pieces grown together, of their ends on one side."""
    if one[0] is None or other[0] is None:
        return ENDLESS
    if one[0] == other[0]:
        return (one[0], one[1] or other[1])
    return one if less(one[0], other[0]) == is_low else other


def lies_below(one, other):
    """Tell whether there is a number above one piece and below the other that is in neither."""
    if one[2] is None or other[0] is None:
        return False
    if one[2] == other[0]:
        return not one[3] and not other[1]
    return less(one[2], other[0])


def put_in(pieces, piece):
    """Tell pieces in order, no two of which touch, with one more piece put in."""
    below = []
    above = []
    grown = piece
    for held in pieces:
        if lies_below(held, piece):
            below.append(held)
        elif lies_below(piece, held):
            above.append(held)
        else:
            grown = wider(grown[:2], held[:2], True) + wider(grown[2:], held[2:], False)
    return below + [grown] + above


def number_in(piece):
    """Tell a fraction that is in a piece that isn't empty."""
    low = piece[0]
    high = piece[2]
    if low is None and high is None:
        return (0, 1)
    if low is None:
        return made(high[0] // high[1] - 1, 1)
    # A whole number keeps short what is reckoned with it later.
    whole = made(low[0] // low[1] + 1, 1)
    if high is None or less(whole, high):
        return whole
    if low == high:
        return low
    return times(plus(low, high), (1, 2))
