"""answer and at."""

import unittest

from helper import ANSWER, LEAST, MOST, STRING, at, begin, gap, last, make, tell


class Answer(unittest.TestCase):
    def test_no_bead(self):
        self.assertEqual(last(begin(0), ANSWER), [0, 1, 1, 1, 1])
        self.assertEqual(last(begin(0), gap(0, 14, 21), ANSWER), [0, 2, 3, 1, 1])

    def test_one_bead(self):
        # lower 1 - 5 * 3 x, upper 2 * lower + 3
        self.assertEqual(last(*make([(2, 1), (3, 1)], [(5, 1)]), ANSWER), [1, 5, 1, -30, 1, 1, 1, -15, 1])

    def test_one_bead_of_fractions(self):
        # lower 1 - 3/4 * 2/3 x, upper 1/2 * lower + 2/3
        self.assertEqual(last(*make([(1, 2), (2, 3)], [(3, 4)]), ANSWER), [1, 7, 6, -1, 4, 1, 1, -1, 2])

    def test_all_alike(self):
        self.assertEqual(last(begin(2), ANSWER), [2, 3, 1, -4, 1, 1, 1, 1, 1, -3, 1, 1, 1])
        self.assertEqual(last(begin(3), ANSWER), [3, 4, 1, -10, 1, 6, 1, -1, 1, 1, 1, -6, 1, 5, 1, -1, 1])
        upper = [5, 1, -20, 1, 21, 1, -8, 1, 1, 1]
        lower = [1, 1, -10, 1, 15, 1, -7, 1, 1, 1]
        self.assertEqual(last(begin(4), ANSWER), [4] + upper + lower)

    def test_left_and_right_are_told_apart(self):
        told = last(*make([(1, 1), (2, 1), (3, 1)], [(5, 1), (7, 1)]), ANSWER)
        # behind bead 1: lower 1 - 21x, upper 2 - 42x + 3 = 5 - 42x
        # behind bead 0: lower 1 - 21x - 25x + 210xx, upper lower + 5 - 42x
        self.assertEqual(told, [2, 6, 1, -88, 1, 210, 1, 1, 1, -46, 1, 210, 1])

    def test_beads_far_heavier_than_others(self):
        told = last(*make([(1, 1), (1, 1), (1, 1)], [(99, 1), (1, 99)]), ANSWER)
        # behind bead 1: lower 1 - x/99, upper 2 - x/99
        # behind bead 0: lower 1 - x/99 - 198x + xx, upper lower + 2 - x/99
        self.assertEqual(told, [2, 3, 1, -19604, 99, 1, 1, 1, 1, -19603, 99, 1, 1])


class At(unittest.TestCase):
    def test_at_zero_it_is_how_long_the_string_is(self):
        self.assertEqual(last(begin(4), at(0, 1)), [1, 5, 1])
        self.assertEqual(last(*make([(1, 2), (1, 3), (1, 6)], [(9, 1), (7, 1)]), at(0, 999)), [1, 1, 1])

    def test_no_bead_answers_its_gap_everywhere(self):
        for a, b in ((0, 1), (-999, 1), (999, 1), (1, 999), (7, 3)):
            with self.subTest(a=a, b=b):
                self.assertEqual(last(begin(0), gap(0, 4, 6), at(a, b)), [1, 2, 3])

    def test_one_bead(self):
        one = make([(2, 1), (3, 1)], [(5, 1)])
        # (5 - 30x) / (1 - 15x)
        self.assertEqual(last(*one, at(1, 1)), [1, 25, 14])
        self.assertEqual(last(*one, at(-1, 1)), [1, 35, 16])
        self.assertEqual(last(*one, at(1, 10)), [1, -4, 1])
        self.assertEqual(last(*one, at(1, 6)), [1, 0, 1])

    def test_at_a_zero_of_the_lower_polynomial(self):
        one = make([(2, 1), (3, 1)], [(5, 1)])
        self.assertEqual(last(*one, at(1, 15)), [0])
        self.assertEqual(last(*one, at(60, 900)), [0])
        self.assertEqual(last(*one, at(1, 14)), [1, -40, 1])
        self.assertEqual(last(*one, at(-1, 15)), [1, 7, 2])
        self.assertEqual(last(begin(1), at(1, 1)), [0])

    def test_at_both_zeros_of_two_beads(self):
        # lower 1 - 7/2 x + 3/2 xx, upper lower + 2 - 3/2 x
        two = make([(1, 1), (1, 1), (1, 1)], [(1, 1), (3, 2)])
        self.assertEqual(last(*two, at(1, 3)), [0])
        self.assertEqual(last(*two, at(2, 1)), [0])
        self.assertEqual(last(*two, at(998, 499)), [0])
        self.assertEqual(last(*two, at(1, 1)), [1, 1, 2])
        self.assertEqual(last(*two, at(3, 1)), [1, 3, 8])

    def test_smallest_and_largest_numbers(self):
        # 1 + 1 / (1 - x)
        self.assertEqual(last(begin(1), at(-999, 1)), [1, 1001, 1000])
        self.assertEqual(last(begin(1), at(999, 1)), [1, 997, 998])
        self.assertEqual(last(begin(1), at(-999, 999)), [1, 3, 2])
        self.assertEqual(last(begin(1), at(1, 999)), [1, 1997, 998])
        self.assertEqual(last(begin(1), at(999, 999)), [0])

    def test_numbers_that_are_not_let(self):
        for a in (-1000, 1000, LEAST, MOST):
            for b in (1, 999, 0):
                with self.subTest(a=a, b=b):
                    self.assertEqual(last(begin(1), at(a, b)), [-22])
        for b in (0, -1, 1000, LEAST, MOST):
            for a in (0, 1, -999, 999):
                with self.subTest(a=a, b=b):
                    self.assertEqual(last(begin(1), at(a, b)), [-22])

    def test_refusal_changes_nothing(self):
        told = tell(*make([(2, 1), (3, 1)], [(5, 1)]), at(1000, 1), STRING, at(1, 0), STRING)
        self.assertEqual(told[4:], [[-22], [1, 2, 1, 3, 1, 5, 1], [-22], [1, 2, 1, 3, 1, 5, 1]])


if __name__ == "__main__":
    unittest.main()
