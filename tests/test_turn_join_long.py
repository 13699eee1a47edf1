"""turn, join and long."""

import unittest

from helper import ALL, ANSWER, FOUND, LEAST, LONG, MOST, STRING, TURN, at, bead, begin, gap, join, last, make, means
from helper import rings, take, tell

ONE = make([(2, 1), (3, 1)], [(5, 7)])
TWO = make([(1, 1), (2, 1), (3, 1)], [(5, 1), (7, 1)])
THREE = make([(1, 2), (2, 3), (3, 4), (4, 5)], [(5, 6), (6, 7), (7, 8)])
FOUR = make([(1, 1), (2, 1), (3, 1), (4, 1), (5, 1)], [(6, 1), (7, 1), (8, 1), (9, 1)])

ASKED = (STRING, ANSWER, at(0, 1), at(1, 3), rings(0, 1, 1, 9), ALL, FOUND, means(9), LONG)


def through(*calls):
    return tell(*calls, *ASKED)[len(calls):]


class Turn(unittest.TestCase):
    def test_all_stands_the_other_way_round(self):
        self.assertEqual(tell(*ONE, TURN, STRING)[-2:], [[0], [1, 3, 1, 2, 1, 5, 7]])
        self.assertEqual(tell(*TWO, TURN, STRING)[-2:], [[0], [2, 3, 1, 2, 1, 1, 1, 7, 1, 5, 1]])
        self.assertEqual(tell(*THREE, TURN, STRING)[-2:],
                         [[0], [3, 4, 5, 3, 4, 2, 3, 1, 2, 7, 8, 6, 7, 5, 6]])
        self.assertEqual(tell(*FOUR, TURN, STRING)[-2:],
                         [[0], [4, 5, 1, 4, 1, 3, 1, 2, 1, 1, 1, 9, 1, 8, 1, 7, 1, 6, 1]])

    def test_no_bead_and_all_alike_stay(self):
        self.assertEqual(tell(begin(0), gap(0, 7, 3), TURN, STRING)[2:], [[0], [0, 7, 3]])
        for n in range(5):
            with self.subTest(n=n):
                self.assertEqual(through(begin(n), TURN), through(begin(n)))

    def test_twice_is_nothing_changed(self):
        for there in (ONE, TWO, THREE, FOUR, [begin(0)]):
            self.assertEqual(through(*there, TURN, TURN), through(*there))

    def test_all_that_is_asked_then_is_of_the_turned_string(self):
        turned = make([(3, 1), (2, 1), (1, 1)], [(7, 1), (5, 1)])
        self.assertEqual(through(*TWO, TURN), through(*turned))
        self.assertNotEqual(through(*TWO, TURN)[1], through(*TWO)[1])

    def test_upper_polynomial_stays(self):
        there, back = last(*TWO, ANSWER), last(*TWO, TURN, ANSWER)
        self.assertEqual(there, [2, 6, 1, -88, 1, 210, 1, 1, 1, -46, 1, 210, 1])
        # behind bead 0 as it was: lower 1 - 5x, upper 3 - 10x; behind bead 1: lower 1 - 26x + 70xx
        self.assertEqual(back, [2, 6, 1, -88, 1, 210, 1, 1, 1, -26, 1, 70, 1])

    def test_gaps_and_beads_have_their_new_numbers(self):
        self.assertEqual(tell(*TWO, TURN, gap(0, 9, 1), bead(1, 8, 1), STRING)[-3:],
                         [[0, 3, 1], [0, 5, 1], [2, 9, 1, 2, 1, 1, 1, 7, 1, 8, 1]])

    def test_behind_take_join_and_begin(self):
        self.assertEqual(last(begin(0), take(1, [5, -30], [1, -15]), TURN, STRING), [1, 3, 1, 2, 1, 5, 1])
        self.assertEqual(last(*TWO, join(0), TURN, STRING), [1, 3, 1, 3, 1, 7, 1])
        self.assertEqual(last(*TWO, TURN, begin(1), STRING), [1] + [1, 1] * 3)


class Join(unittest.TestCase):
    def test_bead_is_gone_and_its_gaps_are_one(self):
        self.assertEqual(tell(*TWO, join(0), STRING)[-2:], [[0, 5, 1], [1, 3, 1, 3, 1, 7, 1]])
        self.assertEqual(tell(*TWO, join(1), STRING)[-2:], [[0, 7, 1], [1, 1, 1, 5, 1, 5, 1]])

    def test_each_of_three_and_four(self):
        self.assertEqual(tell(*THREE, join(0), STRING)[-2:], [[0, 5, 6], [2, 7, 6, 3, 4, 4, 5, 6, 7, 7, 8]])
        self.assertEqual(tell(*THREE, join(1), STRING)[-2:], [[0, 6, 7], [2, 1, 2, 17, 12, 4, 5, 5, 6, 7, 8]])
        self.assertEqual(tell(*THREE, join(2), STRING)[-2:], [[0, 7, 8], [2, 1, 2, 2, 3, 31, 20, 5, 6, 6, 7]])
        gaps, beads = [1, 2, 3, 4, 5], [6, 7, 8, 9]
        for i in range(4):
            left = gaps[:i] + [gaps[i] + gaps[i + 1]] + gaps[i + 2:] + beads[:i] + beads[i + 1:]
            string = [3] + [number for whole in left for number in (whole, 1)]
            with self.subTest(i=i):
                self.assertEqual(tell(*FOUR, join(i), STRING)[-2:], [[0, beads[i], 1], string])

    def test_until_there_is_just_one(self):
        answered = tell(*FOUR, join(3), join(2), join(1), join(0), STRING)
        self.assertEqual(answered[-5:], [[0, 9, 1], [0, 8, 1], [0, 7, 1], [-33], [1, 1, 1, 14, 1, 6, 1]])
        answered = tell(*FOUR, join(0), join(0), join(0), join(0), STRING)
        self.assertEqual(answered[-5:], [[0, 6, 1], [0, 7, 1], [0, 8, 1], [-33], [1, 10, 1, 5, 1, 9, 1]])

    def test_no_such_bead(self):
        for n in range(5):
            for i in (-1, n, n + 1, -n - 1, LEAST, MOST):
                with self.subTest(n=n, i=i):
                    self.assertEqual(tell(begin(n), join(i), STRING)[1:], [[-2], [n] + [1, 1] * (2 * n + 1)])

    def test_no_bead(self):
        for i in (0, 1, -1):
            self.assertEqual(tell(begin(0), gap(0, 2, 3), join(i), STRING)[2:], [[-2], [0, 2, 3]])

    def test_just_one_bead(self):
        self.assertEqual(tell(*ONE, join(0))[-1], [-33])
        self.assertEqual(through(*ONE, join(0)), through(*ONE))

    def test_not_there_comes_before_just_one(self):
        for i in (1, -1, 2, LEAST, MOST):
            with self.subTest(i=i):
                self.assertEqual(tell(*ONE, join(i))[-1], [-2])
                self.assertEqual(through(*ONE, join(i)), through(*ONE))

    def test_all_that_is_asked_then_is_of_the_joined_string(self):
        self.assertEqual(through(*TWO, join(0)), through(*make([(3, 1), (3, 1)], [(7, 1)])))
        self.assertEqual(through(*TWO, TURN, join(0)), through(*make([(5, 1), (1, 1)], [(5, 1)])))

    def test_behind_it_the_last_gap_and_bead_are_gone(self):
        answered = tell(*TWO, join(1), gap(2, 1, 1), bead(1, 1, 1), gap(1, 1, 4), bead(0, 1, 6), STRING)
        self.assertEqual(answered[-5:], [[-2], [-2], [0, 5, 1], [0, 5, 1], [1, 1, 1, 1, 4, 1, 6]])

    def test_behind_take_and_begin(self):
        answered = tell(begin(0), take(2, [6, -10, 3], [2, -7, 3]), join(0), STRING, join(0))
        self.assertEqual(answered[2:], [[0, 1, 1], [1, 2, 1, 1, 1, 3, 2], [-33]])
        self.assertEqual(tell(*TWO, join(0), begin(2), STRING)[-1], [2] + [1, 1] * 5)


class Long(unittest.TestCase):
    def test_how_long_and_how_heavy(self):
        self.assertEqual(last(*ONE, LONG), [0, 5, 1, 5, 7])
        self.assertEqual(last(*TWO, LONG), [0, 6, 1, 12, 1])
        self.assertEqual(last(*THREE, LONG), [0, 163, 60, 431, 168])
        self.assertEqual(last(*FOUR, LONG), [0, 15, 1, 30, 1])

    def test_no_bead(self):
        self.assertEqual(last(begin(0), LONG), [0, 1, 1, 0, 1])
        self.assertEqual(last(begin(0), gap(0, 14, 21), LONG), [0, 2, 3, 0, 1])

    def test_all_alike(self):
        for n in range(5):
            with self.subTest(n=n):
                self.assertEqual(last(begin(n), LONG), [0, n + 1, 1, n, 1])

    def test_beads_far_heavier_than_others(self):
        self.assertEqual(last(*make([(1, 99), (99, 1)], [(99, 1)]), LONG), [0, 9802, 99, 99, 1])
        self.assertEqual(last(begin(2), bead(0, 99, 1), bead(1, 1, 99), LONG), [0, 3, 1, 9802, 99])

    def test_nothing_in_common(self):
        self.assertEqual(last(*make([(1, 6), (1, 3)], [(4, 8)]), LONG), [0, 1, 2, 1, 2])

    def test_it_changes_nothing(self):
        self.assertEqual(through(*TWO, LONG), through(*TWO))

    def test_behind_calls_that_change(self):
        self.assertEqual(last(*TWO, TURN, LONG), [0, 6, 1, 12, 1])
        self.assertEqual(last(*TWO, join(0), LONG), [0, 6, 1, 7, 1])
        self.assertEqual(last(*TWO, take(12, [14, -3], [12, -6]), LONG), [0, 7, 6, 3, 4])
        self.assertEqual(last(*TWO, gap(0, 1, 2), LONG), [0, 11, 2, 12, 1])
        self.assertEqual(last(*TWO, begin(1), LONG), [0, 2, 1, 1, 1])


if __name__ == "__main__":
    unittest.main()
