"""Calls by name, answers split call by call, and the same string reckoned in another way."""

from fractions import Fraction

from beadstring.strings import answers

LEAST = -2147483648
MOST = 2147483647

SIZES = [1, 3, 3, 0, 0, 2, 4, 0]


def begin(n):
    return [0, n]


def gap(i, a, b):
    return [1, i, a, b]


def bead(i, a, b):
    return [2, i, a, b]


def at(a, b):
    return [5, a, b]


def rings(a, b, c, d):
    return [6, a, b, c, d]


STRING = [3]
ANSWER = [4]
ALL = [7]


def tell(*calls):
    """The answers to the calls, a list for each of them."""
    told = answers([number for call in calls for number in call])
    split = []
    place = 0
    while place < len(told):
        count = told[place]
        split.append(told[place + 1:place + 1 + count])
        place = place + 1 + count
    assert place == len(told) and len(split) == len(calls)
    return split


def last(*calls):
    return tell(*calls)[-1]


def make(gaps, beads):
    """The calls that make a string out of pairs of numbers."""
    calls = [begin(len(beads))]
    calls.extend(gap(i, a, b) for i, (a, b) in enumerate(gaps))
    calls.extend(bead(i, a, b) for i, (a, b) in enumerate(beads))
    return calls


def flat(fractions):
    return [number for one in fractions for number in (one.numerator, one.denominator)]


def values_at(gaps, beads, x):
    """Upper and lower at x, bead by bead in numbers alone."""
    upper, lower = Fraction(*gaps[-1]), Fraction(1)
    for i in reversed(range(len(beads))):
        lower = lower - Fraction(*beads[i]) * x * upper
        upper = Fraction(*gaps[i]) * lower + upper
    return upper, lower


def factors(values):
    """The factors of the polynomial that has these values at 0, 1, 2 and so on (Lagrange)."""
    result = [Fraction(0)] * len(values)
    for k, value in enumerate(values):
        term = [value]
        for j in range(len(values)):
            if j != k:
                times_x = [Fraction(0)] + term
                times_j = [j * factor for factor in term] + [Fraction(0)]
                term = [(one - other) / (k - j) for one, other in zip(times_x, times_j)]
        result = [one + other for one, other in zip(result, term)]
    return result


def polynomials(gaps, beads):
    values = [values_at(gaps, beads, Fraction(x)) for x in range(len(beads) + 1)]
    return factors([upper for upper, lower in values]), factors([lower for upper, lower in values])


def zeros_above(polynomial, place):
    """Moved to begin at the place; by Descartes' rule, which is exact where all zeros are real."""
    moved = []
    for factor in reversed(polynomial):
        times_x = [Fraction(0)] + moved
        times_place = [place * one for one in moved] + [Fraction(0)]
        moved = [one + other for one, other in zip(times_x, times_place)]
        moved[0] += factor
    signs = [factor > 0 for factor in moved if factor != 0]
    return sum(one != other for one, other in zip(signs, signs[1:]))
