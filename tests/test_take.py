"""take: what's taken is the string from then on."""

import unittest
from fractions import Fraction
from unittest import mock

from helper import ALL, ANSWER, FOUND, LONG, MOST, STRING, TURN, at, bead, begin, gap, join, last, make, means, rings
from helper import parts, polynomials, take, tell, told
from test_told import ORDINARY

ASKED = (STRING, ANSWER, at(0, 1), at(1, 1), at(-3, 7), rings(0, 1, 1, 2), rings(-9, 1, 99, 1), ALL, FOUND, means(1),
         means(12), LONG)

# Answers whose strings have just one number of 10 to the power of 60 or more: above in a bead, and below in one.
JUST_TOO_GREAT = (
    (1588990, [6673758, -16777206, 10464150, -1827923], [1588990, -7464916, 6240607, -1278268]),
    (3627357, [10446788, -16777215, 6675554, -718221], [3627357, -14347648, 8058077, -1011578]),
    (9797, [46242, -222695, 262122, -108933, 14668], [9797, -110549, 208434, -126144, 23657]),
    (45511, [236657, -1008865, 1048566, -356362, 33720], [45511, -519626, 711852, -274563, 27415]),
)
# One with a bead of more than a hundred digits, and with gaps that are too great as well.
FAR_TOO_GREAT = (94356255, [439700148, -1954124174, 2147483636, -804448243, 86998391],
                 [94356255, -937853997, 1363704558, -601679488, 74357599])
# Answers whose strings have numbers of 60 digits, but none of 61.
JUST_LET = (
    (1650299, [4571328, -8388605, 3539263, -396859], [1650299, -6067819, 3731484, -592326]),
    (11564, [58398, -242316, 262143, -102413, 12513], [11564, -138526, 261265, -147310, 23609]),
)


def over(e, upper, lower):
    return [Fraction(number, e) for number in upper], [Fraction(number, e) for number in lower]


def through(*calls):
    """What all that can be asked answers behind the calls."""
    return tell(*calls, *ASKED)[len(calls):]


class Take(unittest.TestCase):
    def test_answers_how_many_beads_and_is_the_string(self):
        for n in range(5):
            for e, upper, lower, string in ORDINARY:
                with self.subTest(n=n, string=string):
                    self.assertEqual(tell(begin(n), take(e, upper, lower), STRING), [[n], string[:1], string])

    def test_all_that_is_asked_then_is_of_that_string(self):
        for e, upper, lower, string in ORDINARY:
            with self.subTest(string=string):
                self.assertEqual(through(begin(3), take(e, upper, lower)), through(*make(*parts(string))))

    def test_one_after_another(self):
        calls, wanted = [begin(2)], [[2]]
        for e, upper, lower, string in ORDINARY:
            calls += [take(e, upper, lower), STRING]
            wanted += [string[:1], string]
        self.assertEqual(tell(*calls), wanted)

    def test_zeros_at_the_end_are_left_out(self):
        answered = tell(begin(4), take(1, [5, -30, 0], [1, -15, 0, 0, 0]), STRING, ANSWER)
        self.assertEqual(answered[1:], [[1], [1, 2, 1, 3, 1, 5, 1], [1, 5, 1, -30, 1, 1, 1, -15, 1]])

    def test_what_is_taken_can_be_changed(self):
        answered = tell(begin(0), take(1, [5, -30], [1, -15]), gap(1, 4, 6), bead(0, 9, 1), gap(2, 1, 1), bead(1, 1, 1),
                        STRING)
        self.assertEqual(answered[2:], [[0, 3, 1], [0, 5, 1], [-2], [-2], [1, 2, 1, 2, 3, 9, 1]])

    def test_begin_again_leaves_nothing_of_it(self):
        self.assertEqual(through(begin(0), take(1, [5, -30], [1, -15]), begin(2)), through(begin(2)))

    def test_refused_before_a_begin_and_begins_nothing(self):
        self.assertEqual(tell(take(1, [5, -30], [1, -15]), STRING, take(0, [], []), begin(0), STRING),
                         [[-11], [-11], [-11], [0], [0, 1, 1]])

    def test_refusals_leave_what_was_taken(self):
        taken = [begin(0), take(2, [6, -10, 3], [2, -7, 3])]
        for call in (take(0, [1], [1]), take(1, [], [1]), take(1, [1], [1] * 6), take(1, [1, -1], [1, -1]),
                     take(*JUST_TOO_GREAT[0]), begin(5), told(1, [1], [2])):
            with self.subTest(call=call):
                self.assertEqual(through(*taken, call), through(*taken))

    def test_great_numbers_are_refused_and_change_nothing(self):
        there = make([(2, 1), (3, 1)], [(5, 7)])
        for answer in JUST_TOO_GREAT + (FAR_TOO_GREAT,):
            with self.subTest(answer=answer):
                string = last(begin(0), told(*answer))
                self.assertGreaterEqual(max(string), 10 ** 60)
                self.assertEqual(polynomials(*parts(string)), over(*answer))
                self.assertEqual(last(*there, take(*answer)), [-75])
                self.assertEqual(through(*there, take(*answer)), through(*there))

    def test_great_numbers_below_that_are_taken(self):
        for answer in JUST_LET:
            with self.subTest(answer=answer):
                string = last(begin(0), told(*answer))
                self.assertEqual(len(str(max(string))), 60)
                self.assertEqual(polynomials(*parts(string)), over(*answer))
                self.assertEqual(tell(begin(1), take(*answer), STRING, FOUND)[1:], [string[:1], string, string])
                self.assertEqual(last(begin(1), take(*answer), ALL), string[:1] * 4)
                self.assertEqual(last(begin(1), take(*answer), at(0, 1))[0], 1)

    def test_great_numbers_that_are_taken_can_be_turned_and_joined(self):
        for answer in JUST_LET:
            gaps, beads = parts(last(begin(0), told(*answer)))
            there = [begin(1), take(*answer)]
            with self.subTest(answer=answer):
                gaps_back, beads_back = parts(last(*there, TURN, FOUND))
                self.assertEqual((gaps_back[::-1], beads_back[::-1]), (gaps, beads))
                self.assertEqual(last(*there, TURN, ALL), [len(beads)] * 4)
                self.assertEqual(last(*there, join(len(beads) - 1)), [0] + list(beads[-1]))
                joined = tell(*there, join(0), STRING, FOUND, ALL)
                self.assertEqual(joined[-3], joined[-2])
                self.assertEqual(joined[-1], [len(beads) - 1] * 4)

    def test_bound_of_great_numbers(self):
        # Few answers tell a string right at the bound, so the string that an answer tells is put in here.
        for place in range(5):
            for number, refused in ((10 ** 60 - 1, False), (10 ** 60, True), (10 ** 60 + 1, True)):
                for fraction in ((number, 7), (7, number)):
                    fractions = [(1, 1)] * place + [fraction] + [(1, 1)] * (4 - place)
                    with self.subTest(place=place, fraction=fraction):
                        self.at_bound(fractions[:3], fractions[3:], refused)

    def at_bound(self, gaps, beads, refused):
        with mock.patch("beadstring.strand.find_parts", lambda upper, lower: (list(gaps), list(beads))):
            answered = tell(begin(0), take(1, [1], [1]), STRING, told(1, [1], [1]))
        string = [2] + [number for one in gaps + beads for number in one]
        self.assertEqual(answered[1:], [[-75], [0, 1, 1], string] if refused else [[2], string, string])

    def test_not_let_and_no_string_come_before_too_great(self):
        e, upper, lower = JUST_TOO_GREAT[0]
        self.assertEqual(last(begin(0), take(0, upper, lower)), [-22])
        self.assertEqual(last(begin(0), take(e, upper + [0, 0], lower)), [-22])
        self.assertEqual(last(begin(0), take(e + 1, upper, lower)), [-33])
        self.assertEqual(last(begin(0), take(e, lower, upper)), [-33])
        self.assertEqual(last(begin(0), take(e, [-number for number in upper], lower)), [-33])
        self.assertEqual(last(take(e, upper, lower)), [-11])

    def test_largest_numbers(self):
        self.assertEqual(tell(begin(3), take(MOST, [MOST], [MOST]), STRING)[1:], [[0], [0, 1, 1]])
        self.assertEqual(tell(begin(3), take(1, [MOST], [1]), STRING)[1:], [[0], [0, MOST, 1]])


if __name__ == "__main__":
    unittest.main()
