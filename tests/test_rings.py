"""rings and all."""

import unittest

from helper import ALL, LEAST, MOST, STRING, bead, begin, gap, last, make, rings, tell

# One bead: lower 1 - 15x with its zero at 1/15, upper 5 - 30x with its zero at 1/6.
ONE = make([(2, 1), (3, 1)], [(5, 1)])
# Two beads: lower 1 - 7/2 x + 3/2 xx with its zeros at 1/3 and 2.
TWO = make([(1, 1), (1, 1), (1, 1)], [(1, 1), (3, 2)])


class Rings(unittest.TestCase):
    def test_no_bead(self):
        self.assertEqual(last(begin(0), rings(-999, 1, 999, 1)), [0, 0])
        self.assertEqual(last(begin(0), gap(0, 99, 1), rings(0, 1, 1, 1)), [0, 0])

    def test_one_bead(self):
        self.assertEqual(last(*ONE, rings(0, 1, 1, 1)), [1, 1])
        self.assertEqual(last(*ONE, rings(0, 1, 1, 10)), [1, 0])
        self.assertEqual(last(*ONE, rings(1, 10, 1, 1)), [0, 1])
        self.assertEqual(last(*ONE, rings(1, 10, 1, 9)), [0, 0])

    def test_a_bound_that_is_a_zero_of_the_lower_polynomial(self):
        self.assertEqual(last(*ONE, rings(0, 1, 1, 15)), [1, 0])
        self.assertEqual(last(*ONE, rings(0, 1, 66, 999)), [0, 0])
        self.assertEqual(last(*ONE, rings(1, 15, 1, 1)), [0, 1])
        self.assertEqual(last(*ONE, rings(66, 999, 1, 1)), [1, 1])

    def test_a_bound_that_is_a_zero_of_the_upper_polynomial(self):
        self.assertEqual(last(*ONE, rings(0, 1, 1, 6)), [1, 1])
        self.assertEqual(last(*ONE, rings(1, 6, 1, 1)), [0, 0])
        self.assertEqual(last(*ONE, rings(1, 15, 1, 6)), [0, 1])

    def test_bounds_that_are_zeros_of_two_beads(self):
        self.assertEqual(last(*TWO, rings(1, 3, 2, 1))[0], 1)
        self.assertEqual(last(*TWO, rings(0, 1, 2, 1))[0], 2)
        self.assertEqual(last(*TWO, rings(0, 1, 1, 3))[0], 1)
        self.assertEqual(last(*TWO, rings(0, 1, 332, 997))[0], 0)
        self.assertEqual(last(*TWO, rings(2, 1, 999, 1))[0], 0)
        self.assertEqual(last(*TWO, rings(1, 3, 999, 500))[0], 0)
        # all alike: upper 3 - 4x + xx with its zeros at 1 and 3, lower 1 - 3x + xx at 0.38 and 2.61
        self.assertEqual(last(begin(2), rings(1, 1, 3, 1)), [1, 1])
        self.assertEqual(last(begin(2), rings(0, 1, 1, 1)), [1, 1])
        self.assertEqual(last(begin(2), rings(0, 1, 99, 100)), [1, 0])
        self.assertEqual(last(begin(2), rings(3, 1, 4, 1)), [0, 0])
        self.assertEqual(last(begin(2), rings(0, 1, 3, 1)), [2, 2])

    def test_four_beads_all_alike(self):
        # the lower one's zeros are 0.12, 1, 2.34, 3.53, the upper one's 0.38, 1.38, 2.61, 3.61
        self.assertEqual(last(begin(4), rings(0, 1, 4, 1)), [4, 4])
        self.assertEqual(last(begin(4), rings(0, 1, 1, 1)), [2, 1])
        self.assertEqual(last(begin(4), rings(1, 1, 4, 1)), [2, 3])
        self.assertEqual(last(begin(4), rings(1, 1, 5, 2)), [1, 1])
        self.assertEqual(last(begin(4), rings(0, 1, 1, 5)), [1, 0])
        self.assertEqual(last(begin(4), rings(18, 5, 4, 1)), [0, 1])

    def test_beads_far_heavier_than_others(self):
        # lower 1 - 19603/99 x + xx has its zeros at about 1/198 and 198, upper 3 - 19604/99 x + xx at 1/66 and 198
        heavy = make([(1, 1), (1, 1), (1, 1)], [(99, 1), (1, 99)])
        self.assertEqual(last(*heavy, rings(0, 1, 1, 100)), [1, 0])
        self.assertEqual(last(*heavy, rings(1, 100, 197, 1)), [0, 1])
        self.assertEqual(last(*heavy, rings(197, 1, 199, 1)), [1, 1])
        self.assertEqual(last(*heavy, rings(-999, 1, 999, 1)), [2, 2])
        wide = [gap(i, 99, 1) for i in range(5)] + [bead(i, 99, 1) for i in range(4)]
        self.assertEqual(last(begin(4), *wide, rings(0, 1, 1, 999)), [4, 4])
        narrow = [gap(i, 1, 99) for i in range(5)] + [bead(i, 1, 99) for i in range(4)]
        self.assertEqual(last(begin(4), *narrow, rings(-999, 1, 999, 1)), [0, 0])

    def test_below_zero_nothing_rings(self):
        for n in range(5):
            with self.subTest(n=n):
                self.assertEqual(last(begin(n), rings(-999, 1, -1, 999)), [0, 0])
                self.assertEqual(last(begin(n), rings(-2, 1, -1, 1)), [0, 0])
                self.assertEqual(last(begin(n), rings(-1, 1, 0, 1)), [0, 0])
                self.assertEqual(last(begin(n), rings(-999, 1, 999, 1)), [n, n])

    def test_smallest_and_largest_numbers(self):
        self.assertEqual(last(*ONE, rings(-999, 999, 999, 999)), [1, 1])
        self.assertEqual(last(*ONE, rings(-999, 1, -998, 1)), [0, 0])
        self.assertEqual(last(*ONE, rings(998, 1, 999, 1)), [0, 0])

    def test_numbers_that_are_not_let(self):
        good = (0, 1, 5, 2)
        for place in (0, 2):
            for wrong in (-1000, 1000, LEAST, MOST):
                self.refused(good, place, wrong)
        for place in (1, 3):
            for wrong in (0, -1, 1000, LEAST, MOST):
                self.refused(good, place, wrong)
        self.refused((-999, 1, 999, 1), 0, -1000)
        self.refused((-999, 1, 999, 1), 2, 1000)

    def refused(self, good, place, wrong):
        numbers = list(good)
        numbers[place] = wrong
        with self.subTest(numbers=numbers):
            self.assertEqual(last(*ONE, rings(*numbers)), [-22])

    def test_left_is_not_less_than_right(self):
        for numbers in ((1, 1, 1, 1), (1, 2, 2, 4), (0, 1, 0, 999), (-1, 1, -1, 1), (2, 1, 1, 1), (1, 2, 1, 3),
                        (-1, 3, -1, 2), (0, 1, -1, 999), (999, 1, -999, 1), (2, 3, 5, 8)):
            with self.subTest(numbers=numbers):
                self.assertEqual(last(*ONE, rings(*numbers)), [-22])

    def test_left_is_just_less_than_right(self):
        for numbers in ((998, 999, 1, 1), (1, 3, 1, 2), (-1, 2, -1, 3), (-1, 1, 0, 1), (5, 8, 2, 3)):
            with self.subTest(numbers=numbers):
                self.assertNotEqual(last(*ONE, rings(*numbers)), [-22])

    def test_refusal_changes_nothing(self):
        told = tell(*ONE, rings(1, 1, 0, 1), STRING, rings(0, 0, 1, 1), STRING)
        self.assertEqual(told[4:], [[-22], [1, 2, 1, 3, 1, 5, 1], [-22], [1, 2, 1, 3, 1, 5, 1]])


class All(unittest.TestCase):
    def test_all_zeros_are_above_zero_and_as_many_as_beads(self):
        for n in range(5):
            with self.subTest(n=n):
                self.assertEqual(last(begin(n), ALL), [n] * 4)

    def test_beads_far_heavier_than_others(self):
        for n in range(1, 5):
            for i in range(n):
                calls = [begin(n)] + [bead(j, 1, 99) for j in range(n)] + [bead(i, 99, 1), gap(i, 99, 98)]
                with self.subTest(n=n, i=i):
                    self.assertEqual(last(*calls, ALL), [n] * 4)


if __name__ == "__main__":
    unittest.main()
