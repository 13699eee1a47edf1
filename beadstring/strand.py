"""The string of beads that a line of calls speaks of, and what each call answers."""

from beadstring.ratio import ONE, ZERO, divided, is_less, lowest, opposite, plus, total
from beadstring.polynomials import added, falling_factors, raised, scaled, value_at
from beadstring.telling import find_parts, without_gap
from beadstring.zeros import zeros_above, zeros_between, zeros_everywhere

NOT_THERE = -2
NOT_LET = -22
CANNOT_BE = -33
TOO_GREAT = -75

MOST_BEADS = 4
MOST_MEANS = 12
MOST_OF_A_PART = 99
MOST_OF_A_PLACE = 999


def lies_within(number, least, most):
    return least <= number and number <= most


def is_place(above, below):
    """Whether the two numbers may tell a place on the line."""
    return lies_within(above, -MOST_OF_A_PLACE, MOST_OF_A_PLACE) and lies_within(below, 1, MOST_OF_A_PLACE)


def told_fractions(fractions):
    """The fractions' numbers, one behind another."""
    numbers = []
    for fraction in fractions:
        numbers.extend([fraction[0], fraction[1]])
    return numbers


def told_parts(gaps, beads):
    return [len(beads)] + told_fractions(gaps) + told_fractions(beads)


def is_row(row):
    """Whether a row may tell a polynomial; a string's has one factor more than there are beads."""
    return lies_within(len(row), 1, MOST_BEADS + 1)


def is_too_great(part):
    return max(part[0], part[1]) >= 10 ** 60


def read_answer(e, upper, lower):
    """The pair (refusal, parts) of an answer that's handed in; one of the two is None."""
    if e < 1 or not (is_row(upper) and is_row(lower)):
        return (NOT_LET, None)
    parts = find_parts([lowest(number, e) for number in upper], [lowest(number, e) for number in lower])
    if parts is None:
        return (CANNOT_BE, None)
    return (None, parts)


def set_part(parts, i, above, below):
    """Give a gap or bead a new measure, and answer what it was."""
    if not lies_within(i, 0, len(parts) - 1):
        return [NOT_THERE]
    if not (lies_within(above, 1, MOST_OF_A_PART) and lies_within(below, 1, MOST_OF_A_PART)):
        return [NOT_LET]
    before = parts[i]
    parts[i] = lowest(above, below)
    return [0] + told_fractions([before])


class Strand:
    """Gaps and beads from the left, as fractions; before it's begun there's no string."""

    def __init__(self):
        self.begun = False
        self.gaps = []
        self.beads = []

    def begin(self, n):
        if not lies_within(n, 0, MOST_BEADS):
            return [NOT_LET]
        self.begun = True
        self.gaps = [ONE] * (n + 1)
        self.beads = [ONE] * n
        return [n]

    def set_gap(self, i, above, below):
        return set_part(self.gaps, i, above, below)

    def set_bead(self, i, above, below):
        return set_part(self.beads, i, above, below)

    def all_parts(self):
        return told_parts(self.gaps, self.beads)

    def polynomials(self):
        """The pair (upper, lower) whose quotient is the string's answer."""
        upper = [self.gaps[-1]]
        lower = [ONE]
        for i in range(len(self.beads) - 1, -1, -1):
            lower = added(lower, scaled(raised(upper, 1), opposite(self.beads[i])))
            upper = added(scaled(lower, self.gaps[i]), upper)
        return (upper, lower)

    def answer(self):
        both = self.polynomials()
        return [len(self.beads)] + told_fractions(both[0]) + told_fractions(both[1])

    def answer_at(self, above, below):
        if not is_place(above, below):
            return [NOT_LET]
        place = lowest(above, below)
        both = self.polynomials()
        lower_value = value_at(both[1], place)
        if lower_value == ZERO:
            return [0]
        return [1] + told_fractions([divided(value_at(both[0], place), lower_value)])

    def rings(self, left_above, left_below, right_above, right_below):
        if not (is_place(left_above, left_below) and is_place(right_above, right_below)):
            return [NOT_LET]
        left = lowest(left_above, left_below)
        right = lowest(right_above, right_below)
        if not is_less(left, right):
            return [NOT_LET]
        both = self.polynomials()
        return [zeros_between(both[1], left, right), zeros_between(both[0], left, right)]

    def all_rings(self):
        both = self.polynomials()
        above_zero = [zeros_above(both[1], ZERO), zeros_above(both[0], ZERO)]
        return above_zero + [zeros_everywhere(both[1]), zeros_everywhere(both[0])]

    def told(self, e, upper, lower):
        outcome = read_answer(e, upper, lower)
        if outcome[0] is not None:
            return [outcome[0]]
        return told_parts(outcome[1][0], outcome[1][1])

    def take(self, e, upper, lower):
        outcome = read_answer(e, upper, lower)
        if outcome[0] is not None:
            return [outcome[0]]
        parts = outcome[1]
        if any([is_too_great(part) for part in parts[0] + parts[1]]):
            return [TOO_GREAT]
        self.gaps = parts[0]
        self.beads = parts[1]
        return [len(self.beads)]

    def found(self):
        both = self.polynomials()
        parts = find_parts(both[0], both[1])
        return told_parts(parts[0], parts[1])

    def turn(self):
        self.gaps = list(reversed(self.gaps))
        self.beads = list(reversed(self.beads))
        return [0]

    def join_gaps(self, i):
        """Take bead i out, so that the gaps on both its sides are one, and answer how heavy it was."""
        if not lies_within(i, 0, len(self.beads) - 1):
            return [NOT_THERE]
        if len(self.beads) == 1:
            return [CANNOT_BE]
        before = self.beads[i]
        self.gaps = self.gaps[:i] + [plus(self.gaps[i], self.gaps[i + 1])] + self.gaps[i + 2:]
        self.beads = self.beads[:i] + self.beads[i + 1:]
        return [0] + told_fractions([before])

    def means(self, k):
        if not lies_within(k, 1, MOST_MEANS):
            return [NOT_LET]
        both = self.polynomials()
        rest = without_gap(both[0], both[1], self.gaps[0])
        return [k] + told_fractions([opposite(factor) for factor in falling_factors(rest, both[1], k)])

    def measures(self):
        """How long all gaps are together, and how heavy all beads."""
        return [0] + told_fractions([total(self.gaps), total(self.beads)])
