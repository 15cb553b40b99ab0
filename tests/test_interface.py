"""The list that is handed in and the list that is given back."""

import contextlib
import io
import sys
import unittest

from cellforming.hall import answers

LINE = [8, 0, 2, 100, 1, 4, 60, 2, -50, 1, 1, 0, 1, 3, 1, 2, 3, 2, 0, 2, 0, 2, 7, 3, 0, 4, 1, 2,
        7, 0, 7, 2, 8, 9, 2, 5, 1, 5, 0, 6, 3, 2, 0]
ANSWERED = [1, -11, 1, 0, 1, 0, 1, -22, 1, -22, 1, 0, 1, 1, 1, -2, 1, 3, 1, 5,
            2, 60, 0, 2, 10, 0, 2, 60, 5, 1, 2, 1, 0, 1, 0, 1, 3, 1, 2]

# Two trays are begun, one behind another by follow, and minutes go by.
LATER = [19, 0, 2, 100, 1, 4, 60, 2, -50, 1, 2, 0, 2, 0, 10, 1, 11, 6, 12, 6, 16, 15, 0, 13, 6, 16, 15, 1, 10, 0,
         14, 59, 14, 60, 6, 4, 17, 18, 0, 18, 1, 19, 11, 61]
LATER_ANSWERED = [1, -11, 1, 0, 1, 0, 1, 0, 1, 1, 1, 0, 3, 60, 0, 2, 3, 5, 0, 2, 3, 2, 0, 1, 1, -6, 1, 5, 1, 0,
                  2, 3, 2, 1, -17, 1, -62, 1, 100, 1, 4, 3, 190, 0, 1, 2, 3, 2, 1, -2, 5, 4, 1, 1, 2, 60, 1, -22]


class Unchanging(list):
    """A list that tells of a change, even of one that is taken back."""

    def refuse(self, *args):
        raise AssertionError("what is handed in is changed")

    __setitem__ = __delitem__ = __iadd__ = __imul__ = refuse
    append = extend = insert = pop = remove = clear = sort = reverse = refuse


class Interface(unittest.TestCase):
    def test_how_answers_are_written(self):
        self.assertEqual(answers(LINE), ANSWERED)
        self.assertEqual(answers(LATER), LATER_ANSWERED)

    def test_whole_numbers_in_a_list(self):
        for line in (LINE, LATER):
            answered = answers(line)
            self.assertIs(type(answered), list)
            self.assertEqual({type(number) for number in answered}, {int})

    def test_one_call(self):
        self.assertEqual(answers([8]), [1, -11])
        self.assertEqual(answers([0, 1, 0]), [1, 0])

    def test_what_is_handed_in_stays_as_it_is(self):
        for line in (LINE, LATER):
            calls = Unchanging(line)
            answers(calls)
            self.assertEqual(calls, line)

    def test_what_is_given_back_is_its_own(self):
        calls = list(LINE)
        first = answers(calls)
        second = answers(calls)
        self.assertIsNot(first, second)
        first.append(7)
        self.assertEqual(second, ANSWERED)

    def test_nothing_is_kept(self):
        self.assertEqual(answers(LINE), answers(LINE))
        self.assertEqual(answers(LATER), answers(LATER))
        self.assertEqual(answers([19]), [1, -11])
        self.assertEqual(answers([8]), [1, -11])
        self.assertEqual(answers([3, 0, 0, 1, 9, 2, 0]), [1, -11, 1, 0, 1, -2])

    def test_nothing_is_printed(self):
        printed = io.StringIO()
        with contextlib.redirect_stdout(printed), contextlib.redirect_stderr(printed):
            answers(LINE)
            answers(LATER)
        self.assertEqual(printed.getvalue(), "")

    def test_nothing_is_imported(self):
        before = set(sys.modules)
        answers(LATER)
        self.assertEqual(set(sys.modules), before)

    def test_a_list_of_two_hundred_calls(self):
        row = [1, 60] + [-2147483648, 2147483647] * 30
        calls = [0, 1, 0] + row * 199
        self.assertEqual(answers(calls), [1, 0] + [1, -22] * 199)
        self.assertEqual(answers(row * 200), [1, -11] * 200)

    def test_two_hundred_calls_of_each_kind(self):
        line = [0, 3, 500, 1, 10, 100, 20, -50, 20, 0, 20, 150, 20, 70, 20, 2, 0, 2, 0, 2, 0]
        begun = [1, 0, 1, 0, 1, 0, 1, 1, 1, 2]
        # least's and through's own minutes are held against a plain trial elsewhere; here it's that all is answered.
        for call, answer in (([10, 2], [1, 0]), ([11, 6], [4, 450, 0, 0, 0]), ([12, 6], [4, 100, 0, 0, 0]),
                             ([14, 500], [1, 500]), ([15, 0], [1, -6]), ([16], [4, 3, 0, 1, 2]), ([17], [3, 0, 0, 0]),
                             ([18, 0], [2, 100, 5]), ([19], [5, 0, 3, 1, 3, 500])):
            self.assertEqual(answers(line + call * 195), begun + answer * 195, call)

    def test_the_highest_numbers(self):
        most = 4294967295
        calls = [0, 1, 0] + [number for call in (2, 3, 5, 6, 7, 9, 10, 11, 12, 13, 14, 15, 18) for number in (call, most)]
        expected = [-2, -2, -2, -22, -22, -22, -2, -22, -22, -22, -22, -2, -2]
        self.assertEqual(answers(calls + [4, most, most, 0, most, most]),
                         [1, 0] + [number for answer in expected for number in (1, answer)] + [1, -2, 1, -22])
