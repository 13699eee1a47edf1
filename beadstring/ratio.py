"""Fractions: pairs (above, below) of whole numbers with nothing in common, below 1 or more."""

ZERO = (0, 1)
ONE = (1, 1)


def common_factor(one, other):
    """The largest number that divides both; they aren't both 0."""
    while other != 0:
        rest = one % other
        one = other
        other = rest
    return abs(one)


def lowest(above, below):
    """The fraction above by below; below isn't 0."""
    common = common_factor(above, below)
    if below < 0:
        common = -common
    return (above // common, below // common)


def plus(one, other):
    return lowest(one[0] * other[1] + other[0] * one[1], one[1] * other[1])


def times(one, other):
    return lowest(one[0] * other[0], one[1] * other[1])


def divided(one, other):
    """One by other; other isn't 0."""
    return lowest(one[0] * other[1], one[1] * other[0])


def total(fractions):
    result = ZERO
    for fraction in fractions:
        result = plus(result, fraction)
    return result


def opposite(one):
    return (-one[0], one[1])


def is_less(one, other):
    return one[0] * other[1] < other[0] * one[1]


def sign(one):
    """1 above 0, -1 below 0, 0 at 0."""
    if one[0] > 0:
        return 1
    if one[0] < 0:
        return -1
    return 0
