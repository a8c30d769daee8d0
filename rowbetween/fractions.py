"""Fractions: tuples (top, bottom) in lowest terms, with the bottom above nought."""

from rowbetween.errors import NoQuotient


def common_divisor(one, other):
    """Tell the greatest common divisor of two whole numbers, nought where both are nought."""
    while other != 0:
        rest = one % other
        one = other
        other = rest
    return abs(one)


def made(top, bottom):
    """Tell the fraction that is the quotient of two whole numbers."""
    if bottom == 0:
        raise NoQuotient(top)
    divisor = common_divisor(top, bottom)
    if bottom < 0:
        divisor = -divisor
    return (top // divisor, bottom // divisor)


def plus(one, other):
    """Tell the sum of two fractions."""
    return made(one[0] * other[1] + other[0] * one[1], one[1] * other[1])


def minus(one, other):
    """Tell the first fraction less the second."""
    return made(one[0] * other[1] - other[0] * one[1], one[1] * other[1])


def times(one, other):
    """Tell the product of two fractions."""
    return made(one[0] * other[0], one[1] * other[1])


def over(one, other):
    """Tell the quotient of the first fraction by the second."""
    if other[0] == 0:
        raise NoQuotient(one)
    return made(one[0] * other[1], one[1] * other[0])


def less(one, other):
    """Tell whether the first fraction is less than the second."""
    return one[0] * other[1] < other[0] * one[1]
