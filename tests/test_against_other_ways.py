"""Many strings, reckoned a second time in another way: see helper.py."""

import random
import unittest
from fractions import Fraction

from helper import ALL, ANSWER, FOUND, LONG, STRING, TURN, at, begin, determinant, flat, from_zeros, join, last, make
from helper import means, means_by_springs, pairs, parts, polynomials, rings, rows, take, tell, told, values_at
from helper import zeros_above

RANGES = (1, 2, 3, 9, 99)


def some_strings():
    source = random.Random(20)
    for count in range(300):
        n = count % 5
        most = RANGES[count // 5 % len(RANGES)]
        parts = [(source.randint(1, most), source.randint(1, most)) for part in range(2 * n + 1)]
        yield parts[:n + 1], parts[n + 1:], source


def some_place(source):
    most = source.choice((3, 30, 999))
    return source.randint(-most // 3, most), source.randint(1, source.choice((1, most)))


class OtherWays(unittest.TestCase):
    def test_answer(self):
        for gaps, beads, source in some_strings():
            upper, lower = polynomials(gaps, beads)
            self.assertEqual(last(*make(gaps, beads), ANSWER), [len(beads)] + flat(upper) + flat(lower))

    def test_at(self):
        for gaps, beads, source in some_strings():
            places = [some_place(source) for count in range(20)]
            told = tell(*make(gaps, beads), *[at(a, b) for a, b in places])[2 * len(beads) + 2:]
            for (a, b), answered in zip(places, told):
                upper, lower = values_at(gaps, beads, Fraction(a, b))
                self.assertEqual(answered, [0] if lower == 0 else [1] + flat([upper / lower]))

    def test_rings(self):
        for gaps, beads, source in some_strings():
            bounds = [some_place(source) + some_place(source) for count in range(20)]
            told = tell(*make(gaps, beads), *[rings(*four) for four in bounds])[2 * len(beads) + 2:]
            upper, lower = polynomials(gaps, beads)
            for (a, b, c, d), answered in zip(bounds, told):
                left, right = Fraction(a, b), Fraction(c, d)
                wanted = [zeros_above(one, left) - zeros_above(one, right) for one in (lower, upper)]
                self.assertEqual(answered, wanted if left < right else [-22])

    def test_all(self):
        for gaps, beads, source in some_strings():
            self.assertEqual(last(*make(gaps, beads), ALL), [len(beads)] * 4)

    def test_means(self):
        for gaps, beads, source in some_strings():
            wanted = [12] + flat(means_by_springs(gaps, beads, 12))
            self.assertEqual(last(*make(gaps, beads), means(12)), wanted)

    def test_long(self):
        for gaps, beads, source in some_strings():
            wanted = [sum((Fraction(*one) for one in row), Fraction(0)) for row in (gaps, beads)]
            self.assertEqual(last(*make(gaps, beads), LONG), [0] + flat(wanted))

    def test_turn_and_join(self):
        for gaps, beads, source in some_strings():
            self.assertEqual(tell(*make(gaps, beads), TURN, STRING)[-2:],
                             [[0], last(*make(gaps[::-1], beads[::-1]), STRING)])
            if len(beads) > 1:
                i = source.randrange(len(beads))
                joined = [Fraction(*one) for one in gaps]
                joined[i:i + 2] = [joined[i] + joined[i + 1]]
                left = [Fraction(*one) for one in beads[:i] + beads[i + 1:]]
                self.assertEqual(tell(*make(gaps, beads), join(i), STRING)[-2:],
                                 [[0] + flat([Fraction(*beads[i])]), [len(left)] + flat(joined + left)])

    def test_found_is_string(self):
        for gaps, beads, source in some_strings():
            calls = [STRING, FOUND, TURN, STRING, FOUND]
            if len(beads) > 1:
                calls += [join(source.randrange(len(beads))), STRING, FOUND]
            answered = tell(*make(gaps, beads), *calls)[2 * len(beads) + 2:]
            self.assertEqual(answered[0], answered[1])
            self.assertEqual(answered[3], answered[4])
            self.assertEqual(answered[-2:-1], answered[-1:])

    def test_told_and_take_give_the_string_back(self):
        counts = [0] * 5
        for gaps, beads, source in some_strings():
            string, answer = tell(*make(gaps, beads), STRING, ANSWER)[-2:]
            factors = [Fraction(*one) for one in pairs(answer[1:])]
            for times in (1, 2, 35):
                handed = rows(factors[:len(beads) + 1], factors[len(beads) + 1:], times)
                if handed is not None:
                    counts[len(beads)] += 1
                    answered = tell(begin(2), told(*handed), take(*handed), STRING, ANSWER)
                    self.assertEqual(answered[1:], [string, [len(beads)], string, answer])
        self.assertTrue(min(counts) > 30, counts)

    def test_any_two_polynomials(self):
        # Small factors at random: either no string answers so, or the one that's told does.
        source = random.Random(7)
        counts = {False: 0, True: 0}
        for count in range(6000):
            n = count % 4
            e = source.randint(1, 3)
            signs = [(-1) ** power for power in range(n + 1)]
            upper = [sign * source.randint(1, 12) for sign in signs]
            lower = [e] + [sign * source.randint(1, 12) for sign in signs[1:]]
            answered = last(begin(0), told(e, upper, lower))
            wanted = [Fraction(number, e) for number in upper], [Fraction(number, e) for number in lower]
            self.assertEqual(answered != [-33], lie_in_turn(*wanted))
            counts[answered != [-33]] += 1
            if answered != [-33]:
                gaps, beads = parts(answered)
                self.assertTrue(min(a for a, b in gaps + beads) > 0)
                self.assertEqual(polynomials(gaps, beads), wanted)
        self.assertTrue(min(counts.values()) > 100, counts)

    def test_polynomials_by_their_zeros(self):
        # A string answers so just where zeros above 0 come in turn, the lower one's first.
        source = random.Random(8)
        counts = {False: 0, True: 0}
        for count in range(1500):
            n = count % 4 + 1
            zeros = sorted(source.sample(range(1, 16), 2 * n))
            lower = zeros[::2]
            if count % 3 > 0:
                lower = source.choice((zeros[1::2], source.sample(zeros, n), lower[1:] + [-lower[0]]))
            upper = [zero for zero in zeros if zero not in lower][:n]
            in_turn = sorted(lower) == zeros[::2]
            handed = rows(from_zeros(upper, source.randint(1, 3)), from_zeros(lower, 1))
            if handed is not None:
                answered = last(begin(0), told(*handed))
                self.assertEqual(answered != [-33], in_turn, (upper, lower))
                counts[in_turn] += 1
        self.assertTrue(min(counts.values()) > 300, counts)


def lie_in_turn(upper, lower):
    """Whether both have as many zeros above 0 as powers, in turn, the lower one's first; by signs of determinants.

    The quotient's beads and gaps are quotients of these, so that all must be above 0 (Stieltjes).
    """
    n = len(lower) - 1
    rest = [one - upper[-1] / lower[-1] * other for one, other in zip(upper, lower)][:n]
    if upper[-1] / lower[-1] <= 0:
        return False
    series = []
    for step in range(2 * n):
        rest = [Fraction(0)] + rest
        share = rest[n] / lower[n]
        series.append(-share)
        rest = [one - share * other for one, other in zip(rest, lower)][:n]
    minors = [determinant([series[i + shift:i + shift + size] for i in range(size)])
              for size in range(1, n + 1) for shift in (0, 1)]
    return all(minor > 0 for minor in minors)


class WhatHolds(unittest.TestCase):
    def test_lower_zeros_lead_by_at_most_one(self):
        for gaps, beads, source in some_strings():
            bounds = [some_place(source) for count in range(10)]
            asked = [rings(-999, 1, c, d) for c, d in bounds if Fraction(c, d) > -999]
            for lower, upper in tell(*make(gaps, beads), *asked)[2 * len(beads) + 2:]:
                self.assertIn(lower - upper, (0, 1))

    def test_at_zero_it_is_how_long_the_string_is(self):
        for gaps, beads, source in some_strings():
            length = sum(Fraction(a, b) for a, b in gaps)
            self.assertEqual(last(*make(gaps, beads), at(0, 1)), [1] + flat([length]))

    def test_upper_is_the_same_for_the_string_turned(self):
        for gaps, beads, source in some_strings():
            there = last(*make(gaps, beads), ANSWER)
            back = last(*make(gaps[::-1], beads[::-1]), ANSWER)
            self.assertEqual(there[:2 * len(beads) + 3], back[:2 * len(beads) + 3])

    def test_turn_twice_is_nothing_and_once_leaves_the_upper_polynomial(self):
        for gaps, beads, source in some_strings():
            answered = tell(*make(gaps, beads), STRING, ANSWER, TURN, ANSWER, TURN, STRING, ANSWER)[2 * len(beads) + 2:]
            self.assertEqual(answered[:2], answered[5:])
            self.assertEqual(answered[1][:2 * len(beads) + 3], answered[3][:2 * len(beads) + 3])

    def test_means_fit_strictly_as_far_as_there_are_beads(self):
        for gaps, beads, source in some_strings():
            given = [Fraction(*one) for one in pairs(last(*make(gaps, beads), means(12))[1:])]
            for size in range(1, 7):
                for shift in (0, 1):
                    minor = determinant([given[i + shift:i + shift + size] for i in range(size)])
                    self.assertTrue(minor > 0 if size <= len(beads) else minor == 0)

    def test_it_holds_behind_take_turn_and_join(self):
        for gaps, beads, source in some_strings():
            handed = rows(*polynomials(gaps, beads))
            if handed is not None:
                calls = [begin(0), take(*handed), TURN] + ([join(0)] if len(beads) > 1 else [])
                left = len(beads) - (len(beads) > 1)
                string, both, length, sums, zeros = tell(*calls, STRING, ANSWER, at(0, 1), LONG, ALL)[len(calls):]
                upper, lower = polynomials(*parts(string))
                self.assertEqual(both, [left] + flat(upper) + flat(lower))
                self.assertEqual(length[1:], sums[1:3])
                self.assertEqual(zeros, [left] * 4)


if __name__ == "__main__":
    unittest.main()
