"""The list that is handed in and the list that is given back."""

import contextlib
import io
import unittest

from cellforming.hall import answers

LINE = [8, 0, 2, 100, 1, 4, 60, 2, -50, 1, 1, 0, 1, 3, 1, 2, 3, 2, 0, 2, 0, 2, 7, 3, 0, 4, 1, 2,
        7, 0, 7, 2, 8, 9, 2, 5, 1, 5, 0, 6, 3, 2, 0]
ANSWERED = [1, -11, 1, 0, 1, 0, 1, -22, 1, -22, 1, 0, 1, 1, 1, -2, 1, 3, 1, 5,
            2, 60, 0, 2, 10, 0, 2, 60, 5, 1, 2, 1, 0, 1, 0, 1, 3, 1, 2]


class Interface(unittest.TestCase):
    def test_how_answers_are_written(self):
        self.assertEqual(answers(LINE), ANSWERED)

    def test_whole_numbers_in_a_list(self):
        answered = answers(LINE)
        self.assertIs(type(answered), list)
        self.assertEqual({type(number) for number in answered}, {int})

    def test_one_call(self):
        self.assertEqual(answers([8]), [1, -11])
        self.assertEqual(answers([0, 1, 0]), [1, 0])

    def test_what_is_handed_in_stays_as_it_is(self):
        calls = list(LINE)
        answers(calls)
        self.assertEqual(calls, LINE)

    def test_what_is_given_back_is_its_own(self):
        calls = list(LINE)
        first = answers(calls)
        second = answers(calls)
        self.assertIsNot(first, second)
        first.append(7)
        self.assertEqual(second, ANSWERED)

    def test_nothing_is_kept(self):
        self.assertEqual(answers(LINE), answers(LINE))
        self.assertEqual(answers([8]), [1, -11])
        self.assertEqual(answers([3, 0, 0, 1, 9, 2, 0]), [1, -11, 1, 0, 1, -2])

    def test_nothing_is_printed(self):
        printed = io.StringIO()
        with contextlib.redirect_stdout(printed), contextlib.redirect_stderr(printed):
            answers(LINE)
        self.assertEqual(printed.getvalue(), "")

    def test_a_list_of_two_hundred_calls(self):
        row = [1, 60] + [-2147483648, 2147483647] * 30
        calls = [0, 1, 0] + row * 199
        self.assertEqual(answers(calls), [1, 0] + [1, -22] * 199)
        self.assertEqual(answers(row * 200), [1, -11] * 200)
