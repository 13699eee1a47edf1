"""Counting zeros of polynomials that no string needs to have."""

import unittest

from beadstring.zeros import zeros_above, zeros_between, zeros_everywhere


def whole(*factors):
    return [(factor, 1) for factor in factors]


class Zeros(unittest.TestCase):
    def test_zeros_below_and_above_zero(self):
        # (x + 1)(x - 2)(x - 3)
        three = whole(6, 1, -4, 1)
        self.assertEqual(zeros_everywhere(three), 3)
        self.assertEqual(zeros_above(three, (0, 1)), 2)
        self.assertEqual(zeros_above(three, (2, 1)), 1)
        self.assertEqual(zeros_above(three, (3, 1)), 0)
        self.assertEqual(zeros_above(three, (-1, 1)), 2)
        self.assertEqual(zeros_above(three, (-2, 1)), 3)
        self.assertEqual(zeros_between(three, (-1, 1), (2, 1)), 1)
        self.assertEqual(zeros_between(three, (-3, 2), (5, 2)), 2)

    def test_polynomials_without_a_zero(self):
        self.assertEqual(zeros_everywhere(whole(7)), 0)
        self.assertEqual(zeros_everywhere(whole(1, 0, 1)), 0)
        self.assertEqual(zeros_above(whole(1, 0, 1), (0, 1)), 0)
        self.assertEqual(zeros_between(whole(1, 0, 1), (-5, 1), (5, 1)), 0)

    def test_some_zeros_are_not_on_the_line(self):
        # (x - 1)(xx + 1) and (xx - 4)(xx + 1)
        self.assertEqual(zeros_everywhere(whole(-1, 1, -1, 1)), 1)
        self.assertEqual(zeros_everywhere(whole(-4, 0, -3, 0, 1)), 2)
        self.assertEqual(zeros_above(whole(-4, 0, -3, 0, 1), (0, 1)), 1)

    def test_zero_at_zero(self):
        # x(x - 1)(x + 1)
        self.assertEqual(zeros_everywhere(whole(0, -1, 0, 1)), 3)
        self.assertEqual(zeros_above(whole(0, -1, 0, 1), (0, 1)), 1)
        self.assertEqual(zeros_between(whole(0, -1, 0, 1), (-1, 1), (0, 1)), 1)


if __name__ == "__main__":
    unittest.main()
