"""Many strings, reckoned a second time in another way: see helper.py."""

import random
import unittest
from fractions import Fraction

from helper import ALL, ANSWER, at, flat, last, make, polynomials, rings, tell, values_at, zeros_above

RANGES = (1, 2, 3, 9, 99)


def some_strings():
    source = random.Random(20)
    for count in range(300):
        n = count % 5
        most = RANGES[count // 5 % len(RANGES)]
        parts = [(source.randint(1, most), source.randint(1, most)) for part in range(2 * n + 1)]
        yield parts[:n + 1], parts[n + 1:], source


def some_place(source):
    most = source.choice((3, 30, 999))
    return source.randint(-most // 3, most), source.randint(1, source.choice((1, most)))


class OtherWays(unittest.TestCase):
    def test_answer(self):
        for gaps, beads, source in some_strings():
            upper, lower = polynomials(gaps, beads)
            self.assertEqual(last(*make(gaps, beads), ANSWER), [len(beads)] + flat(upper) + flat(lower))

    def test_at(self):
        for gaps, beads, source in some_strings():
            places = [some_place(source) for count in range(20)]
            told = tell(*make(gaps, beads), *[at(a, b) for a, b in places])[2 * len(beads) + 2:]
            for (a, b), answered in zip(places, told):
                upper, lower = values_at(gaps, beads, Fraction(a, b))
                self.assertEqual(answered, [0] if lower == 0 else [1] + flat([upper / lower]))

    def test_rings(self):
        for gaps, beads, source in some_strings():
            bounds = [some_place(source) + some_place(source) for count in range(20)]
            told = tell(*make(gaps, beads), *[rings(*four) for four in bounds])[2 * len(beads) + 2:]
            upper, lower = polynomials(gaps, beads)
            for (a, b, c, d), answered in zip(bounds, told):
                left, right = Fraction(a, b), Fraction(c, d)
                wanted = [zeros_above(one, left) - zeros_above(one, right) for one in (lower, upper)]
                self.assertEqual(answered, wanted if left < right else [-22])

    def test_all(self):
        for gaps, beads, source in some_strings():
            self.assertEqual(last(*make(gaps, beads), ALL), [len(beads)] * 4)


class WhatHolds(unittest.TestCase):
    def test_lower_zeros_lead_by_at_most_one(self):
        for gaps, beads, source in some_strings():
            bounds = [some_place(source) for count in range(10)]
            asked = [rings(-999, 1, c, d) for c, d in bounds if Fraction(c, d) > -999]
            for lower, upper in tell(*make(gaps, beads), *asked)[2 * len(beads) + 2:]:
                self.assertIn(lower - upper, (0, 1))

    def test_at_zero_it_is_how_long_the_string_is(self):
        for gaps, beads, source in some_strings():
            length = sum(Fraction(a, b) for a, b in gaps)
            self.assertEqual(last(*make(gaps, beads), at(0, 1)), [1] + flat([length]))

    def test_upper_is_the_same_for_the_string_turned(self):
        for gaps, beads, source in some_strings():
            there = last(*make(gaps, beads), ANSWER)
            back = last(*make(gaps[::-1], beads[::-1]), ANSWER)
            self.assertEqual(there[:2 * len(beads) + 3], back[:2 * len(beads) + 3])


if __name__ == "__main__":
    unittest.main()
