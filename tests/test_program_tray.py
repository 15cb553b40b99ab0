"""program and tray: what they take, what they refuse, and the numbers they give."""

import unittest

from tests.lines import ask, begin, last, pass_by, program, start, top, tray, used, wait

OPEN = start(8, 10000)


class Program(unittest.TestCase):
    def answer(self, *numbers):
        return last(OPEN, program(*numbers))

    def test_how_many_pairs(self):
        for pairs, answer in ((0, -22), (1, 0), (2, 0), (4, 0), (5, 0), (6, -22), (30, -22)):
            self.assertEqual(self.answer(*[10, 1] * pairs), [answer], pairs)

    def test_an_odd_number_of_numbers(self):
        for many in range(1, 60, 2):
            self.assertEqual(self.answer(*[10] * many), [-22], many)

    def test_edges_of_power(self):
        for level, answer in ((-1001, -22), (-1000, 0), (-1, 0), (0, 0), (1000, 0), (1001, -22),
                              (-2147483648, -22), (2147483647, -22)):
            self.assertEqual(self.answer(level, 1), [answer], level)
            self.assertEqual(self.answer(5, 1, 5, 1, 5, 1, 5, 1, level, 1), [answer], level)
            self.assertEqual(self.answer(5, 1, level, 1, 5, 1), [answer], level)

    def test_edges_of_minutes(self):
        for minutes, answer in ((-1, -22), (0, -22), (1, 0), (20, 0), (21, -22),
                                (-2147483648, -22), (2147483647, -22)):
            self.assertEqual(self.answer(5, minutes), [answer], minutes)
            self.assertEqual(self.answer(5, 1, 5, 1, 5, 1, 5, 1, 5, minutes), [answer], minutes)
            self.assertEqual(self.answer(5, 1, 5, minutes, 5, 1), [answer], minutes)

    def test_powers_and_minutes_are_not_mixed_up(self):
        self.assertEqual(self.answer(1, 21), [-22])
        self.assertEqual(self.answer(21, 1), [0])

    def test_numbers_rise_up_to_the_sixth(self):
        line = [OPEN] + [program(10, 1)] * 7
        self.assertEqual(ask(*line), [[0], [0], [1], [2], [3], [4], [5], [-28]])

    def test_a_wrong_one_is_told_before_a_full_house(self):
        line = [OPEN] + [program(10, 1)] * 6
        self.assertEqual(ask(*line, program(10, 0), program(), program(1001, 1))[-3:], [[-22]] * 3)

    def test_what_is_refused_takes_no_number(self):
        self.assertEqual(ask(OPEN, program(), program(10, 1), program(10, 21), program(10, 1)),
                         [[0], [-22], [0], [-22], [1]])

    def test_each_number_has_its_own_steps(self):
        line = [OPEN, program(10, 1), program(20, 2, 30, 3), program(1000, 20, 0, 20, 1000, 20, -5, 20, 7, 20)]
        for p, end in ((0, 1), (1, 5), (2, 100)):
            self.assertEqual(last(*line, tray(p), begin(0)), [end])


class Tray(unittest.TestCase):
    line = [OPEN, program(10, 2), program(20, 5)]

    def test_no_such_programme(self):
        self.assertEqual(last(OPEN, tray(0)), [-2])
        for p in (2, 5, 6, 4294967295):
            self.assertEqual(last(*self.line, tray(p)), [-2], p)

    def test_numbers_rise_up_to_the_tenth(self):
        trays = [tray(0), tray(1)] * 5
        self.assertEqual(ask(*self.line, *trays, tray(0))[3:], [[t] for t in range(10)] + [[-28]])

    def test_no_such_programme_is_told_before_a_full_house(self):
        self.assertEqual(last(*self.line, *[tray(0)] * 10, tray(2)), [-2])

    def test_what_is_refused_takes_no_number(self):
        self.assertEqual(ask(*self.line, tray(2), tray(0), tray(2), tray(0))[3:], [[-2], [0], [-2], [1]])

    def test_a_new_tray_waits(self):
        self.assertEqual(ask(*self.line, tray(0), top(), used(0))[-2:], [[0, 0], [0]])

    def test_the_least_free_number_is_given_again(self):
        trays = [tray(1), tray(0), tray(1), tray(0)]
        line = self.line + trays + [begin(3), begin(1), pass_by(2)]
        self.assertEqual(ask(*line, tray(0), tray(0), tray(0))[-3:], [[1], [3], [4]])

    def test_a_number_is_free_when_the_last_minute_is_over(self):
        line = self.line + [tray(0)] * 10 + [begin(4)]
        self.assertEqual(ask(*line, pass_by(1), tray(0), pass_by(1), tray(0), tray(0))[-5:],
                         [[1], [-28], [2], [4], [-28]])

    def test_a_tray_begun_for_later_keeps_its_number(self):
        line = self.line + [tray(0), wait(0, 10), pass_by(10), tray(0), pass_by(1), tray(0), pass_by(1), tray(0)]
        self.assertEqual(ask(*line)[-6:], [[10], [1], [11], [2], [12], [0]])
