"""Calls by name, answers split call by call, and the same string reckoned in another way."""

import math
from fractions import Fraction

from beadstring.strings import answers

LEAST = -2147483648
MOST = 2147483647


def begin(n):
    return [0, n]


def gap(i, a, b):
    return [1, i, a, b]


def bead(i, a, b):
    return [2, i, a, b]


def at(a, b):
    return [5, a, b]


def rings(a, b, c, d):
    return [6, a, b, c, d]


def told(e, upper, lower):
    return [8, e, len(upper)] + list(upper) + [len(lower)] + list(lower)


def take(e, upper, lower):
    return [9] + told(e, upper, lower)[1:]


def join(i):
    return [12, i]


def means(k):
    return [13, k]


STRING = [3]
ANSWER = [4]
ALL = [7]
FOUND = [10]
TURN = [11]
LONG = [14]


def tell(*calls):
    """The answers to the calls, a list for each of them."""
    given = answers([number for call in calls for number in call])
    split = []
    place = 0
    while place < len(given):
        count = given[place]
        split.append(given[place + 1:place + 1 + count])
        place = place + 1 + count
    assert place == len(given) and len(split) == len(calls)
    return split


def last(*calls):
    return tell(*calls)[-1]


def make(gaps, beads):
    """The calls that make a string out of pairs of numbers."""
    calls = [begin(len(beads))]
    calls.extend(gap(i, a, b) for i, (a, b) in enumerate(gaps))
    calls.extend(bead(i, a, b) for i, (a, b) in enumerate(beads))
    return calls


def flat(fractions):
    return [number for one in fractions for number in (one.numerator, one.denominator)]


def pairs(numbers):
    return [(numbers[place], numbers[place + 1]) for place in range(0, len(numbers), 2)]


def parts(string):
    """The pair (gaps, beads), as pairs of numbers, out of what string, told or found answers."""
    fractions = pairs(string[1:])
    return fractions[:string[0] + 1], fractions[string[0] + 1:]


def rows(upper, lower, times=1):
    """Three things to hand to told: e, a number of times as large as it need be, and both polynomials over it.

    None if a number is too large for that.
    """
    e = times * math.lcm(*[factor.denominator for factor in upper + lower])
    over = [[int(factor * e) for factor in one] for one in (upper, lower)]
    fits = e <= MOST and all(LEAST <= number <= MOST for row in over for number in row)
    return (e, over[0], over[1]) if fits else None


def means_by_springs(gaps, beads, count):
    """The means by how stiff the gaps are: bead 0's own, when the matrix of the beads' pulls is taken ever again."""
    gaps, beads = [Fraction(*one) for one in gaps], [Fraction(*one) for one in beads]
    place = [1 / bead if i == 0 else Fraction(0) for i, bead in enumerate(beads)]
    result = []
    for step in range(count):
        result.append(place[0] if beads else Fraction(0))
        pulls = [Fraction(0)] * len(beads)
        for i in range(len(beads)):
            # gap i and 1 lies on the right of bead i, and behind the last gap the string is held
            pull = (place[i] - (place[i + 1] if i + 1 < len(beads) else 0)) / gaps[i + 1]
            pulls[i] += pull
            if i + 1 < len(beads):
                pulls[i + 1] -= pull
        place = [pull / bead for pull, bead in zip(pulls, beads)]
    return result


def from_zeros(zeros, first):
    """The polynomial that has these zeros, none of them 0, and this first factor."""
    result = [Fraction(first)]
    for zero in zeros:
        times_x = [Fraction(0)] + [factor / zero for factor in result]
        result = [one - other for one, other in zip(result + [Fraction(0)], times_x)]
    return result


def determinant(matrix):
    """By elimination."""
    result = Fraction(1)
    while matrix:
        first = next((row for row in matrix if row[0] != 0), None)
        if first is None:
            return Fraction(0)
        place = matrix.index(first)
        result *= first[0] * (-1) ** place
        others = matrix[:place] + matrix[place + 1:]
        matrix = [[one - row[0] / first[0] * other for one, other in zip(row[1:], first[1:])] for row in others]
    return result


def values_at(gaps, beads, x):
    """Upper and lower at x, bead by bead in numbers alone."""
    upper, lower = Fraction(*gaps[-1]), Fraction(1)
    for i in reversed(range(len(beads))):
        lower = lower - Fraction(*beads[i]) * x * upper
        upper = Fraction(*gaps[i]) * lower + upper
    return upper, lower


def factors(values):
    """The factors of the polynomial that has these values at 0, 1, 2 and so on (Lagrange)."""
    result = [Fraction(0)] * len(values)
    for k, value in enumerate(values):
        term = [value]
        for j in range(len(values)):
            if j != k:
                times_x = [Fraction(0)] + term
                times_j = [j * factor for factor in term] + [Fraction(0)]
                term = [(one - other) / (k - j) for one, other in zip(times_x, times_j)]
        result = [one + other for one, other in zip(result, term)]
    return result


def polynomials(gaps, beads):
    values = [values_at(gaps, beads, Fraction(x)) for x in range(len(beads) + 1)]
    return factors([upper for upper, lower in values]), factors([lower for upper, lower in values])


def zeros_above(polynomial, place):
    """Moved to begin at the place; by Descartes' rule, which is exact where all zeros are real."""
    moved = []
    for factor in reversed(polynomial):
        times_x = [Fraction(0)] + moved
        times_place = [place * one for one in moved] + [Fraction(0)]
        moved = [one + other for one, other in zip(times_x, times_place)]
        moved[0] += factor
    signs = [factor > 0 for factor in moved if factor != 0]
    return sum(one != other for one, other in zip(signs, signs[1:]))
