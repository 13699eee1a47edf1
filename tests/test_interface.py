"""How calls stand in the list, and how answers are given back."""

import contextlib
import io
import unittest

from beadstring.strings import answers
from helper import ALL, ANSWER, FOUND, LEAST, LONG, MOST, STRING, TURN, at, bead, begin, gap, join, means, rings, take
from helper import tell, told

# Each call, ahead of a begin and behind it, also with refusals and with a begin that comes again.
EACH = [begin(2), gap(1, 4, 6), bead(0, 5, 1), STRING, ANSWER, at(1, 2), rings(0, 1, 9, 1), ALL,
        told(2, [6, -10, 3], [2, -7, 3]), FOUND, TURN, join(1), means(12), LONG, take(1, [5, -30, 0], [1, -15]), STRING]
WRONG = [begin(9), gap(9, 0, 0), bead(0, 0, 0), at(0, 0), rings(1, 1, 0, 1), told(0, [], []), told(1, [1], [2]),
         take(1, [1] * 70, [0] * 70), take(1, [0], [0]), join(0), join(9), means(13)]
CALLS = [number for call in EACH[1:] + EACH + WRONG + EACH for number in call]


class Interface(unittest.TestCase):
    def test_each_answer_has_its_count_before_it(self):
        self.assertEqual(answers(begin(3)), [1, 3])
        self.assertEqual(answers(STRING), [1, -11])
        self.assertEqual(answers(begin(5) + begin(0) + STRING), [1, -22, 1, 0, 3, 0, 1, 1])
        self.assertEqual(answers(begin(0) + gap(0, 2, 4) + ANSWER), [1, 0, 3, 0, 1, 1, 5, 0, 1, 2, 1, 1])
        self.assertEqual(answers(begin(1) + at(1, 1) + at(0, 1)), [1, 1, 1, 0, 3, 1, 2, 1])
        self.assertEqual(answers(begin(1) + rings(0, 1, 1, 1) + ALL), [1, 1, 2, 1, 0, 4, 1, 1, 1, 1])

    def test_sixty_calls(self):
        self.assertEqual(answers(begin(4) + at(0, 1) * 59), [1, 4] + [3, 1, 5, 1] * 59)

    def test_list_stays_as_it_was(self):
        calls = list(CALLS)
        answers(calls)
        self.assertEqual(calls, CALLS)

    def test_list_is_not_changed_for_a_while_either(self):
        class ReadOnly(list):
            def changed(self, *given):
                raise AssertionError("the list was changed")

            append = extend = insert = pop = remove = clear = sort = reverse = changed
            __setitem__ = __delitem__ = __iadd__ = __imul__ = changed

        self.assertEqual(answers(ReadOnly(CALLS)), answers(CALLS))

    def test_same_list_twice_is_answered_alike(self):
        first = answers(CALLS)
        self.assertEqual(answers(CALLS), first)
        self.assertEqual(answers([3]), [1, -11])
        self.assertEqual(answers(begin(2) + STRING), [1, 2, 11, 2] + [1, 1] * 5)

    def test_what_is_given_back_is_not_kept(self):
        first = answers(CALLS)
        copy = list(first)
        first.clear()
        self.assertEqual(answers(CALLS), copy)

    def test_whole_numbers_alone_are_given_back(self):
        given = answers(CALLS)
        self.assertIs(type(given), list)
        self.assertEqual({type(number) for number in given}, {int})

    def test_nothing_is_printed(self):
        printed = io.StringIO()
        with contextlib.redirect_stdout(printed), contextlib.redirect_stderr(printed):
            answers(CALLS)
        self.assertEqual(printed.getvalue(), "")

    def test_calls_stand_in_the_list_by_their_numbers(self):
        calls = [0, 1, 8, 1, 2, 5, -30, 2, 1, -15, 9, 1, 2, 5, -30, 3, 1, -15, 0, 10, 11, 12, 0, 13, 2, 14]
        self.assertEqual(answers(calls), [1, 1, 7, 1, 2, 1, 3, 1, 5, 1, 1, 1, 7, 1, 2, 1, 3, 1, 5, 1, 1, 0, 1, -33,
                                          5, 2, 1, 5, 1, 50, 5, 0, 5, 1, 5, 1])

    def test_rows_are_read_past_whatever_they_hold(self):
        # numbers in the rows that would be calls by themselves
        for count in (0, 1, 2, 5, 6, 69, 70):
            for other in (0, 1, 5, 6, 70):
                for number in (0, 3, 14, LEAST, MOST):
                    call = told(0, [number] * count, [number] * other)
                    with self.subTest(count=count, other=other, number=number):
                        self.assertEqual(tell(call, begin(1), call, STRING), [[-11], [1], [-22], [1] + [1, 1] * 3])

    def test_sixty_calls_of_every_kind_in_any_order(self):
        for turn in range(len(EACH)):
            order = (EACH[turn:] + EACH[:turn]) * 3 + WRONG
            order = [begin(4)] + order[:59]
            with self.subTest(turn=turn):
                answered = tell(*order)
                self.assertEqual(len(answered), 60)
                self.assertNotIn([-11], answered)
                back = tell(begin(4), *order[:0:-1])
                self.assertEqual(len(back), 60)

    def test_longest_list(self):
        for call, refusal in ((told, -22), (take, -22)):
            calls = call(MOST, [MOST] * 70, [LEAST] * 70) * 60
            self.assertEqual(len(calls), 8640)
            self.assertEqual(answers(calls), [1, -11] * 60)
            self.assertEqual(answers(begin(0) + calls[144:]), [1, 0] + [1, refusal] * 59)

    def test_refusals_are_a_number_alone(self):
        for call in WRONG:
            with self.subTest(call=call):
                answered = tell(begin(1), call)[1]
                self.assertEqual(len(answered), 1)
                self.assertIn(answered[0], (-2, -22, -33))

    def test_refusals_change_nothing(self):
        asked = (STRING, ANSWER, at(1, 3), rings(0, 1, 1, 1), ALL, FOUND, means(5), LONG)
        there = [begin(1), gap(0, 2, 3), bead(0, 5, 4)]
        wanted = tell(*there, *asked)[3:]
        for call in WRONG:
            with self.subTest(call=call):
                self.assertEqual(tell(*there, call, *asked)[4:], wanted)

    def test_asking_changes_nothing(self):
        there = [begin(3), gap(0, 2, 3), bead(0, 5, 4)]
        wanted = tell(*there, STRING)[3]
        for call in (STRING, ANSWER, at(1, 3), rings(0, 1, 1, 1), ALL, told(1, [7], [1]), FOUND, means(5), LONG):
            with self.subTest(call=call):
                self.assertEqual(tell(*there, call, STRING)[4], wanted)


if __name__ == "__main__":
    unittest.main()
