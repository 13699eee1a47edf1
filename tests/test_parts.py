"""begin, gap, bead and string."""

import unittest

from helper import ALL, ANSWER, FOUND, LEAST, LONG, MOST, STRING, TURN, at, bead, begin, gap, join, last, means, rings
from helper import take, tell, told


class Begin(unittest.TestCase):
    def test_answers_how_many_beads_and_all_is_one(self):
        for n in range(5):
            with self.subTest(n=n):
                self.assertEqual(tell(begin(n), STRING), [[n], [n] + [1, 1] * (2 * n + 1)])

    def test_refuses_other_counts(self):
        for n in (-1, 5, LEAST, MOST):
            with self.subTest(n=n):
                self.assertEqual(tell(begin(n)), [[-22]])

    def test_refused_begin_begins_nothing(self):
        self.assertEqual(tell(begin(5), STRING, begin(-1), ANSWER), [[-22], [-11], [-22], [-11]])

    def test_all_else_is_refused_before_a_begin(self):
        for call in (gap(0, 1, 1), bead(0, 1, 1), STRING, ANSWER, at(0, 1), rings(0, 1, 1, 1), ALL, told(1, [2], [1]),
                     take(1, [2], [1]), FOUND, TURN, join(0), means(1), LONG):
            with self.subTest(call=call):
                self.assertEqual(tell(call, begin(0), STRING), [[-11], [0], [0, 1, 1]])
                self.assertEqual(tell(begin(5), call, begin(0), STRING), [[-22], [-11], [0], [0, 1, 1]])
                self.assertEqual(tell(call, call), [[-11], [-11]])

    def test_not_begun_comes_before_other_refusals(self):
        for call in (gap(9, 0, 0), bead(-1, 1, 1), bead(0, 100, 1), at(1000, 0), rings(0, 0, 0, 0), told(0, [], []),
                     told(1, [1], [2]), take(0, [1], [1]), take(1, [0], [1]), take(1, [], [1] * 70), join(-1), join(MOST),
                     means(0), means(13)):
            with self.subTest(call=call):
                self.assertEqual(tell(call), [[-11]])

    def test_may_come_again(self):
        told = tell(begin(1), gap(1, 5, 7), bead(0, 2, 1), begin(1), STRING, begin(0), STRING, begin(2), STRING)
        self.assertEqual(told[3:], [[1], [1] + [1, 1] * 3, [0], [0, 1, 1], [2], [2] + [1, 1] * 5])

    def test_refused_begin_leaves_what_was_there(self):
        told = tell(begin(1), gap(1, 5, 7), begin(5), STRING, begin(-1), STRING, begin(LEAST), begin(MOST), STRING)
        string = [1, 1, 1, 5, 7, 1, 1]
        self.assertEqual(told[2:], [[-22], string, [-22], string, [-22], [-22], string])


class GapAndBead(unittest.TestCase):
    def test_answers_what_it_was(self):
        told = tell(begin(1), gap(0, 2, 3), gap(0, 5, 1), gap(0, 1, 1), bead(0, 7, 4), bead(0, 1, 9), bead(0, 1, 1))
        self.assertEqual(told[1:], [[0, 1, 1], [0, 2, 3], [0, 5, 1], [0, 1, 1], [0, 7, 4], [0, 1, 9]])

    def test_fraction_has_nothing_in_common(self):
        told = tell(begin(1), gap(1, 98, 84), bead(0, 99, 99), gap(1, 6, 99), bead(0, 99, 3), STRING)
        self.assertEqual(told[3:], [[0, 7, 6], [0, 1, 1], [1, 1, 1, 2, 33, 33, 1]])

    def test_each_stands_in_its_place(self):
        calls = [gap(i, 10 + i, 1) for i in range(5)] + [bead(i, 20 + i, 1) for i in range(4)]
        string = [4, 10, 1, 11, 1, 12, 1, 13, 1, 14, 1, 20, 1, 21, 1, 22, 1, 23, 1]
        self.assertEqual(last(begin(4), *calls, STRING), string)

    def test_smallest_and_largest_numbers(self):
        told = tell(begin(1), gap(0, 1, 99), gap(0, 99, 1), bead(0, 1, 99), bead(0, 99, 1), STRING)
        self.assertEqual(told[1:], [[0, 1, 1], [0, 1, 99], [0, 1, 1], [0, 1, 99], [1, 99, 1, 1, 1, 99, 1]])

    def test_no_such_gap(self):
        for n in range(5):
            for i in (-1, n + 1, -n - 1, LEAST, MOST):
                with self.subTest(n=n, i=i):
                    self.assertEqual(tell(begin(n), gap(i, 2, 1), STRING)[1:], [[-2], [n] + [1, 1] * (2 * n + 1)])

    def test_no_such_bead(self):
        for n in range(5):
            for i in (-1, n, -n, LEAST, MOST):
                if i == 0 and n > 0:
                    continue
                with self.subTest(n=n, i=i):
                    self.assertEqual(tell(begin(n), bead(i, 2, 1), STRING)[1:], [[-2], [n] + [1, 1] * (2 * n + 1)])

    def test_last_gap_and_bead_are_there(self):
        for n in range(1, 5):
            with self.subTest(n=n):
                told = tell(begin(n), gap(n, 2, 1), bead(n - 1, 3, 1), STRING)
                ones = [1, 1]
                self.assertEqual(told[1:], [[0, 1, 1], [0, 1, 1], [n] + ones * n + [2, 1] + ones * (n - 1) + [3, 1]])

    def test_numbers_that_are_not_let(self):
        for part in (gap, bead):
            for wrong in (0, -1, 100, LEAST, MOST):
                for a, b in ((wrong, 1), (1, wrong), (wrong, wrong), (99, wrong), (wrong, 99)):
                    with self.subTest(part=part.__name__, a=a, b=b):
                        told = tell(begin(1), part(0, 3, 2), part(0, a, b), part(0, 1, 1))
                        self.assertEqual(told[2:], [[-22], [0, 3, 2]])

    def test_not_there_comes_before_not_let(self):
        for call in (gap(2, 0, 1), gap(-1, 1, 100), bead(1, 0, 0), bead(MOST, LEAST, LEAST)):
            with self.subTest(call=call):
                self.assertEqual(tell(begin(1), call)[1], [-2])


class String(unittest.TestCase):
    def test_gaps_come_first_then_beads(self):
        self.assertEqual(last(begin(1), bead(0, 2, 3), gap(0, 4, 5), gap(1, 6, 7), STRING), [1, 4, 5, 6, 7, 2, 3])

    def test_no_bead(self):
        self.assertEqual(last(begin(0), gap(0, 3, 9), STRING), [0, 1, 3])

    def test_asking_changes_nothing(self):
        calls = [begin(2), gap(1, 2, 3), bead(1, 4, 1)]
        told = tell(*calls, STRING, ANSWER, at(1, 2), rings(0, 1, 5, 1), ALL, at(0, 0), rings(1, 1, 0, 1), STRING)
        self.assertEqual(told[3], told[-1])
        self.assertEqual(told[3], [2, 1, 1, 2, 3, 1, 1, 1, 1, 4, 1])


if __name__ == "__main__":
    unittest.main()
