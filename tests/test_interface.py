"""How calls stand in the list, and how answers are given back."""

import contextlib
import io
import unittest

from beadstring.strings import NotBuilt, answers
from helper import ALL, ANSWER, STRING, at, begin, gap, rings

CALLS = [3, 0, 2, 1, 1, 4, 6, 2, 0, 5, 1, 3, 4, 5, 1, 2, 6, 0, 1, 9, 1, 7, 0, 9, 1, 7, 1, 1, 5, 0, 0]


class Interface(unittest.TestCase):
    def test_each_answer_has_its_count_before_it(self):
        self.assertEqual(answers(begin(3)), [1, 3])
        self.assertEqual(answers(STRING), [1, -11])
        self.assertEqual(answers(begin(5) + begin(0) + STRING), [1, -22, 1, 0, 3, 0, 1, 1])
        self.assertEqual(answers(begin(0) + gap(0, 2, 4) + ANSWER), [1, 0, 3, 0, 1, 1, 5, 0, 1, 2, 1, 1])
        self.assertEqual(answers(begin(1) + at(1, 1) + at(0, 1)), [1, 1, 1, 0, 3, 1, 2, 1])
        self.assertEqual(answers(begin(1) + rings(0, 1, 1, 1) + ALL), [1, 1, 2, 1, 0, 4, 1, 1, 1, 1])

    def test_sixty_calls(self):
        self.assertEqual(answers(begin(4) + at(0, 1) * 59), [1, 4] + [3, 1, 5, 1] * 59)

    def test_list_stays_as_it_was(self):
        calls = list(CALLS)
        answers(calls)
        self.assertEqual(calls, CALLS)

    def test_list_is_not_changed_for_a_while_either(self):
        class ReadOnly(list):
            def changed(self, *given):
                raise AssertionError("the list was changed")

            append = extend = insert = pop = remove = clear = sort = reverse = changed
            __setitem__ = __delitem__ = __iadd__ = __imul__ = changed

        self.assertEqual(answers(ReadOnly(CALLS)), answers(CALLS))

    def test_same_list_twice_is_answered_alike(self):
        first = answers(CALLS)
        self.assertEqual(answers(CALLS), first)
        self.assertEqual(answers([3]), [1, -11])
        self.assertEqual(answers(begin(2) + STRING), [1, 2, 11, 2] + [1, 1] * 5)

    def test_what_is_given_back_is_not_kept(self):
        first = answers(CALLS)
        copy = list(first)
        first.clear()
        self.assertEqual(answers(CALLS), copy)

    def test_whole_numbers_alone_are_given_back(self):
        given = answers(CALLS)
        self.assertIs(type(given), list)
        self.assertEqual({type(number) for number in given}, {int})

    def test_nothing_is_printed(self):
        printed = io.StringIO()
        with contextlib.redirect_stdout(printed), contextlib.redirect_stderr(printed):
            answers(CALLS)
        self.assertEqual(printed.getvalue(), "")

    def test_calls_that_are_not_built_answer_nothing(self):
        for call in ([8, 1, 1, 1, 1, 1], [9, 1, 1, 1, 1, 1], [10], [11], [12, 0], [13, 1], [14]):
            with self.subTest(call=call), self.assertRaises(NotBuilt):
                answers(begin(1) + call)


if __name__ == "__main__":
    unittest.main()
