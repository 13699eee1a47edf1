"""told and found, and what told and take refuse alike."""

import unittest
from fractions import Fraction

from helper import ALL, ANSWER, FOUND, LEAST, LONG, MOST, STRING, TURN, at, bead, begin, flat, gap, join, last, make
from helper import parts, polynomials, take, tell, told

# Answers with the strings that they tell, with 0 to 4 beads: e, upper, lower, what told answers.
ORDINARY = (
    (1, [7], [1], [0, 7, 1]),
    (3, [2], [3], [0, 2, 3]),
    (1, [5, -30], [1, -15], [1, 2, 1, 3, 1, 5, 1]),
    (12, [14, -3], [12, -6], [1, 1, 2, 2, 3, 3, 4]),
    (1, [6, -88, 210], [1, -46, 210], [2, 1, 1, 2, 1, 3, 1, 5, 1, 7, 1]),
    (2, [6, -10, 3], [2, -7, 3], [2] + [1, 1] * 3 + [1, 1, 3, 2]),
    (1, [4, -10, 6, -1], [1, -6, 5, -1], [3] + [1, 1] * 7),
    (1, [5, -20, 21, -8, 1], [1, -10, 15, -7, 1], [4] + [1, 1] * 9),
    # all alike, each part 2 and each part 1 by 2
    (1, [6, -32, 32], [1, -12, 16], [2] + [2, 1] * 5),
    (32, [48, -16, 1], [32, -24, 2], [2] + [1, 2] * 5),
    # beads far heavier than others
    (99, [297, -19604, 99], [99, -19603, 99], [2] + [1, 1] * 3 + [99, 1, 1, 99]),
)


class Told(unittest.TestCase):
    def refused(self, refusal, e, upper, lower):
        """Told and take refuse alike, and what's there stays."""
        there = make([(2, 1), (3, 1)], [(5, 7)])
        for call in (told, take):
            with self.subTest(call=call.__name__, e=e, upper=upper, lower=lower):
                answered = tell(*there, call(e, upper, lower), STRING, ANSWER)
                self.assertEqual(answered[len(there):], [[refusal]] + tell(*there, STRING, ANSWER)[len(there):])

    def test_ordinary(self):
        for e, upper, lower, string in ORDINARY:
            with self.subTest(string=string):
                self.assertEqual(last(begin(0), told(e, upper, lower)), string)

    def test_each_number_is_by_e(self):
        for e, upper, lower, string in ORDINARY:
            for times in (2, 3, 100, 60060):
                scaled = [[times * number for number in row] for row in (upper, lower)]
                with self.subTest(string=string, times=times):
                    self.assertEqual(last(begin(0), told(times * e, *scaled)), string)

    def test_largest_e(self):
        self.assertEqual(last(begin(1), told(MOST, [MOST], [MOST])), [0, 1, 1])
        self.assertEqual(last(begin(1), told(MOST, [1], [MOST])), [0, 1, MOST])
        self.assertEqual(last(begin(1), told(1, [MOST], [1])), [0, MOST, 1])
        # gap 0 is 2147483646 by 2147483647, gap 1 what is missing to 1
        string = [1, MOST - 1, MOST, 1, MOST, MOST, 1]
        self.assertEqual(last(begin(1), told(MOST, [MOST, 1 - MOST], [MOST, -MOST])), string)
        self.refused(-33, MOST, [MOST], [MOST - 1])
        self.refused(-33, MOST, [1], [1])

    def test_string_that_is_there_stays(self):
        there = make([(2, 1), (3, 1)], [(5, 1)])
        for e, upper, lower, string in ORDINARY:
            with self.subTest(string=string):
                answered = tell(*there, told(e, upper, lower), STRING, ANSWER)
                self.assertEqual(answered[4:], [string, [1, 2, 1, 3, 1, 5, 1], [1, 5, 1, -30, 1, 1, 1, -15, 1]])

    def test_factors_of_zero_at_the_end_are_left_out(self):
        for e, upper, lower, string in ORDINARY:
            for more in range(6 - len(upper)):
                for further in range(6 - len(lower)):
                    with self.subTest(string=string, more=more, further=further):
                        call = told(e, upper + [0] * more, lower + [0] * further)
                        self.assertEqual(last(begin(2), call), string)

    def test_e_below_one(self):
        for e in (0, -1, -2, LEAST):
            for upper, lower in (([1], [1]), ([-1], [-1]), ([5, -30], [1, -15]), ([e], [e]), ([0], [0]), ([], [])):
                self.refused(-22, e, upper, lower)

    def test_rows_of_no_number_or_more_than_five(self):
        long_rows = [[1] * 6, [0] * 6, [1] + [0] * 5, [1] * 70, [0] * 70, [MOST] * 70, [LEAST] * 69, [1] + [0] * 69]
        for row in [[]] + long_rows:
            for other in ([1], [1, -15], [5, -20, 21, -8, 1], [0], [0] * 5, [], [1] * 6, [0] * 70):
                self.refused(-22, 1, row, other)
                self.refused(-22, 1, other, row)
            self.refused(-22, 0, row, [1])

    def test_not_let_comes_before_no_string(self):
        self.refused(-22, 0, [-1], [1])
        self.refused(-22, -5, [0], [0])
        self.refused(-22, 1, [0, 0, 0, 0, 0, 0], [2])
        self.refused(-22, 2, [], [1])

    def test_six_numbers_with_a_zero_at_the_end_are_more_than_five(self):
        self.refused(-22, 1, [5, -20, 21, -8, 1, 0], [1, -10, 15, -7, 1])
        self.refused(-22, 1, [5, -20, 21, -8, 1], [1, -10, 15, -7, 1, 0])
        self.refused(-22, 1, [7, 0, 0, 0, 0, 0], [1])

    def test_rows_of_nothing_but_zero(self):
        for count in range(1, 6):
            zeros = [0] * count
            self.refused(-33, 1, zeros, [1])
            self.refused(-33, 1, [1], zeros)
            self.refused(-33, 1, zeros, zeros)
            self.refused(-33, 7, [5, -30], zeros)
            self.refused(-33, 7, zeros, [1, -15])

    def test_lower_one_that_does_not_begin_with_one(self):
        for e, upper, lower, string in ORDINARY:
            for other in (2, 3, -1):
                self.refused(-33, e, [other * number for number in upper], [other * number for number in lower])
            self.refused(-33, e, upper, [lower[0] + 1] + lower[1:])
            self.refused(-33, e, upper, [-lower[0]] + lower[1:])
            self.refused(-33, e, upper, [0] + lower[1:])
            self.refused(-33, e + 1, upper, lower)

    def test_upper_and_lower_changed_about(self):
        for e, upper, lower, string in ORDINARY:
            self.refused(-33, e, lower, upper)
        # both may begin with 1; changed about gap 0 would be 2, and the bead below 0
        self.assertEqual(last(begin(0), told(2, [2, -1], [2, -2])), [1, 1, 2, 1, 2, 2, 1])
        self.refused(-33, 2, [2, -2], [2, -1])
        # with no bead and a gap of 1 both are the same
        self.assertEqual(last(begin(0), told(1, [1], [1])), [0, 1, 1])

    def test_polynomials_with_a_factor_in_common(self):
        # times 1 - x, 1 - 2x, 1 + x, and times 1 - x by 9
        for e, upper, lower, string in ORDINARY:
            if len(upper) < 5:
                for of_one in (-1, -2, 1, 9):
                    common = [[number + of_one * before for number, before in zip(row + [0], [0] + row)]
                              for row in (upper, lower)]
                    self.refused(-33, e, *common)
        self.refused(-33, 1, [1, -1], [1, -1])
        self.refused(-33, 1, [2, -4], [1, -2])
        self.refused(-33, 1, [1, -2, 1], [1, -2, 1])
        self.refused(-33, 1, [3, -4, 1], [1, -1, 0])
        # (1 - x)(1 - 3x) and (1 - x)(1 - 5x)
        self.refused(-33, 1, [1, -4, 3], [1, -6, 5])

    def test_polynomials_that_are_not_equally_long(self):
        self.refused(-33, 1, [5], [1, -15])
        self.refused(-33, 1, [5, -30], [1])
        self.refused(-33, 1, [5, -30, 0], [1, 0])
        self.refused(-33, 1, [5, 0], [1, -15])
        self.refused(-33, 1, [3, -4, 1, 0, 0], [1, -3, 1, -1])

    def test_gap_that_would_not_be_above_zero(self):
        self.refused(-33, 1, [-1], [1])
        # gap 0 is -2, then gap 1
        self.refused(-33, 1, [1, 30], [1, -15])
        self.refused(-33, 1, [-1, -30], [1, -15])
        # gap 0 is 2, gap 1 is 0
        self.refused(-33, 1, [2, -30], [1, -15])

    def test_bead_that_would_not_be_above_zero(self):
        # 2 and 3 with a bead of -5
        self.refused(-33, 1, [5, 30], [1, 15])
        # gaps of 1 with beads of 1 and -1, and of -1 and 1
        self.refused(-33, 1, [3, 0, -1], [1, -1, -1])
        self.refused(-33, 1, [3, 0, -1], [1, 1, -1])

    def test_powers_in_between_that_run_out(self):
        # upper less gap 0 times lower is shorter than a string's
        self.refused(-33, 1, [2, -3, 1], [1, -3, 1])
        # the lower one behind bead 0 is shorter than a string's
        self.refused(-33, 1, [2, -2, 1], [1, -1, 1])
        self.refused(-33, 1, [2, 0, 0, 0, 1], [1, 0, 0, 0, 1])
        self.refused(-33, 1, [0, 0, 0, 0, 1], [1, 0, 0, 0, 1])

    def test_answer_with_one_factor_changed(self):
        for e, upper, lower, string in ORDINARY:
            for place in range(len(upper)):
                for row in (0, 1):
                    for more in (1, -1, 50, -50):
                        self.changed(e, [list(upper), list(lower)], string, row, place, more)

    def changed(self, e, both, string, row, place, more):
        both[row][place] += more
        with self.subTest(e=e, both=both):
            answered = last(begin(0), told(e, *both))
            self.assertNotEqual(answered, string)
            if row == 1 and place == 0:
                self.assertEqual(answered, [-33])
            if answered != [-33]:
                gaps, beads = parts(answered)
                self.assertTrue(all(a > 0 and b > 0 for a, b in gaps + beads))
                wanted = tuple([Fraction(number, e) for number in one] for one in both)
                self.assertEqual(polynomials(gaps, beads), wanted)

    def test_one_factor_changed_to_another_string_and_to_none(self):
        self.assertEqual(last(begin(0), told(1, [6, -30], [1, -15])), [1, 2, 1, 4, 1, 15, 4])
        self.assertEqual(last(begin(0), told(1, [5, -15], [1, -15])), [1, 1, 1, 4, 1, 15, 4])
        self.refused(-33, 1, [5, -75], [1, -15])
        self.refused(-33, 1, [5, -30], [1, -6])
        self.refused(-33, 1, [5, -30], [1, 15])

    def test_greatest_numbers(self):
        for row in ([MOST] * 5, [LEAST] * 5, [MOST, LEAST, MOST, LEAST, MOST], [LEAST, MOST, LEAST, MOST, LEAST]):
            for other in ([MOST, LEAST, MOST, LEAST, MOST], [1, LEAST, MOST, LEAST, MOST]):
                self.refused(-33, 1, row, other)
                self.refused(-33, MOST, row, other)

    def test_told_is_not_held_to_sixty_digits(self):
        answered = last(begin(0), told(45511, [236657, -1008865, 1048566, -356362, 33720],
                                       [45511, -519626, 711852, -274563, 27415]))
        self.assertEqual(answered[0], 4)
        self.assertGreaterEqual(max(answered), 10 ** 60)
        upper, lower = polynomials(*parts(answered))
        self.assertEqual(flat([45511 * factor for factor in upper + lower])[::2],
                         [236657, -1008865, 1048566, -356362, 33720, 45511, -519626, 711852, -274563, 27415])


class Found(unittest.TestCase):
    def test_it_is_the_string_itself(self):
        for n in range(5):
            with self.subTest(n=n):
                self.assertEqual(tell(begin(n), FOUND)[1], [n] + [1, 1] * (2 * n + 1))
        self.assertEqual(last(*make([(1, 2), (2, 3)], [(3, 4)]), FOUND), [1, 1, 2, 2, 3, 3, 4])
        self.assertEqual(last(begin(0), gap(0, 14, 21), FOUND), [0, 2, 3])

    def test_beads_far_heavier_than_others(self):
        for i in range(4):
            calls = [begin(4)] + [bead(j, 1, 99) for j in range(4)] + [bead(i, 99, 1), gap(i, 99, 98)]
            answered = tell(*calls, FOUND, STRING)
            with self.subTest(i=i):
                self.assertEqual(answered[-2], answered[-1])

    def test_it_changes_nothing(self):
        answered = tell(begin(2), gap(1, 2, 3), STRING, FOUND, STRING, FOUND)
        self.assertEqual(answered[2:], [[2, 1, 1, 2, 3, 1, 1, 1, 1, 1, 1]] * 4)

    def test_behind_calls_that_change(self):
        calls = [begin(3), gap(0, 5, 1), bead(2, 7, 2), TURN, FOUND, join(1), FOUND, take(1, [5, -30], [1, -15]), FOUND,
                 begin(0), FOUND, ALL, at(0, 1), LONG]
        self.assertEqual(tell(*calls)[4:11:2], [[3, 1, 1, 1, 1, 1, 1, 5, 1, 7, 2, 1, 1, 1, 1],
                                                [2, 1, 1, 2, 1, 5, 1, 7, 2, 1, 1],
                                                [1, 2, 1, 3, 1, 5, 1], [0, 1, 1]])


if __name__ == "__main__":
    unittest.main()
