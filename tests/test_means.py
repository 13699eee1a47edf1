"""means."""

import unittest

from helper import LEAST, MOST, STRING, TURN, bead, begin, gap, join, last, make, means, take, tell

TWO = make([(1, 1), (2, 1), (3, 1)], [(5, 1), (7, 1)])


class Means(unittest.TestCase):
    def test_no_bead(self):
        for k in range(1, 13):
            with self.subTest(k=k):
                self.assertEqual(last(begin(0), gap(0, 5, 3), means(k)), [k] + [0, 1] * k)

    def test_one_bead(self):
        # -3 by (1 - 15x) is 1/5 of the power -1, then each time 1/15 as much
        self.assertEqual(last(*make([(2, 1), (3, 1)], [(5, 1)]), means(4)), [4, 1, 5, 1, 75, 1, 1125, 1, 16875])
        # the lower one is 1 - x by 2
        self.assertEqual(last(*make([(1, 2), (2, 3)], [(3, 4)]), means(3)), [3, 4, 3, 8, 3, 16, 3])

    def test_two_beads(self):
        # 5 - 42x by 1 - 46x + 210xx: -42 by 210, then (5 - 42 * 46 by 210) by 210
        self.assertEqual(last(*TWO, means(2)), [2, 1, 5, 1, 50])
        # 210 of a mean is 46 of the one before less the one before that
        self.assertEqual(last(*TWO, means(4)), [4, 1, 5, 1, 50, 3, 875, 241, 367500])

    def test_all_alike(self):
        # beads of 1 pull 1 and 2, 2: the means of the lower polynomials' zeros
        self.assertEqual(last(begin(1), means(12)), [12] + [1, 1] * 12)
        self.assertEqual(last(begin(2), means(7)), [7, 1, 1, 1, 1, 2, 1, 5, 1, 13, 1, 34, 1, 89, 1])
        self.assertEqual(last(begin(3), means(6)), [6, 1, 1, 1, 1, 2, 1, 5, 1, 14, 1, 42, 1])
        # as far as the string's beads tell, they are 1, 1, 2, 5, 14, 42, 132, 429
        self.assertEqual(last(begin(4), means(9)), [9, 1, 1, 1, 1, 2, 1, 5, 1, 14, 1, 42, 1, 132, 1, 429, 1, 1429, 1])

    def test_gap_0_has_no_part_in_them(self):
        for n in range(5):
            with self.subTest(n=n):
                self.assertEqual(last(begin(n), gap(0, 97, 3), means(12)), last(begin(n), means(12)))

    def test_first_one_is_one_by_bead_0(self):
        for n in range(1, 5):
            with self.subTest(n=n):
                self.assertEqual(last(begin(n), bead(0, 98, 6), means(1)), [1, 3, 49])

    def test_beads_far_heavier_than_others(self):
        heavy = make([(1, 1), (1, 1), (1, 1)], [(99, 1), (1, 99)])
        # 1/99, then 1/99/99, then (1/99 + 99) of 1/99/99
        self.assertEqual(last(*heavy, means(3)), [3, 1, 99, 1, 9801, 9802, 970299])

    def test_fewer_are_the_first_of_more(self):
        for n in range(5):
            whole = last(begin(n), gap(1, 2, 3), bead(0, 5, 7), means(12))
            self.assertEqual((whole[0], len(whole)), (12, 25))
            for k in range(1, 12):
                with self.subTest(n=n, k=k):
                    self.assertEqual(last(begin(n), gap(1, 2, 3), bead(0, 5, 7), means(k)), [k] + whole[1:2 * k + 1])

    def test_counts_that_are_not_let(self):
        for n in (0, 2, 4):
            for k in (0, 13, -1, -12, LEAST, MOST):
                with self.subTest(n=n, k=k):
                    self.assertEqual(tell(begin(n), means(k), STRING)[1:], [[-22], [n] + [1, 1] * (2 * n + 1)])

    def test_it_changes_nothing(self):
        answered = tell(*TWO, STRING, means(12), STRING, means(0), STRING)
        self.assertEqual(answered[-1], answered[-5])
        self.assertEqual(answered[-3], answered[-5])

    def test_behind_calls_that_change(self):
        turned = make([(3, 1), (2, 1), (1, 1)], [(7, 1), (5, 1)])
        self.assertEqual(last(*TWO, TURN, means(12)), last(*turned, means(12)))
        self.assertEqual(last(*TWO, join(1), means(3)), [3, 1, 5, 1, 125, 1, 3125])
        self.assertEqual(last(*TWO, take(1, [5, -30], [1, -15]), means(2)), [2, 1, 5, 1, 75])
        self.assertEqual(last(*TWO, begin(0), means(2)), [2, 0, 1, 0, 1])


if __name__ == "__main__":
    unittest.main()
