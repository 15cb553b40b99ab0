"""peak, left, waiting: refusals in their order, and what they tell of trays begun now and for later."""

import unittest

from tests.lines import (ask, begin, cancel, energy, follow, last, left, pass_by, pass_many, peak, program, start, state,
                         top, tray, wait, waiting)

HUGE = 4294967295


class Peak(unittest.TestCase):
    line = [start(2, 500), program(100, 2, 300, 1), program(-50, 3), tray(0), tray(1)]

    def test_edges(self):
        for n, answer in ((0, 500), (1, 500), (10000, 500), (10001, -22), (HUGE, -22)):
            self.assertEqual(last(*self.line, peak(n)), [answer], n)

    def test_what_it_was(self):
        self.assertEqual(ask(*self.line, peak(10000), peak(0), peak(7), peak(7), peak(10001), peak(1))[-6:],
                         [[500], [10000], [0], [7], [-22], [7]])

    def test_just_what_is_drawn_later_and_one_below(self):
        for call in (begin(0), wait(0, 60)):
            line = self.line + [call]
            self.assertEqual(ask(*line, peak(299), peak(0), peak(300), peak(299))[-4:], [[-62], [-62], [500], [-62]])

    def test_too_high_is_told_whatever_is_drawn(self):
        self.assertEqual(last(*self.line, begin(0), peak(10001)), [-22])

    def test_what_is_refused_leaves_the_peak(self):
        line = self.line + [begin(0)]
        self.assertEqual(ask(*line, peak(299), state(), peak(10001), state(), peak(400))[-5:],
                         [[-62], [0, 2, 2, 2, 500], [-22], [0, 2, 2, 2, 500], [500]])

    def test_minutes_gone_by_are_not_asked(self):
        line = [start(2, 500), program(300, 2, 100, 2), tray(0), begin(0)]
        self.assertEqual(ask(*line, pass_by(1), peak(100), pass_by(1), peak(100), peak(99), pass_by(2), peak(0))[-7:],
                         [[1], [-62], [2], [500], [-62], [4], [100]])

    def test_a_tray_that_waits_is_not_asked(self):
        self.assertEqual(ask(*self.line, peak(0), begin(0), peak(299), begin(0), peak(300), begin(0))[-6:],
                         [[500], [-62], [0], [-62], [299], [3]])

    def test_what_is_given_back_counts(self):
        line = self.line + [begin(0), begin(1)]
        self.assertEqual(ask(*line, peak(249), peak(250), cancel(1))[-3:], [[-62], [500], [-62]])

    def test_a_programme_that_gives_alone(self):
        line = self.line + [begin(1), peak(0)]
        self.assertEqual(ask(*line, top(), begin(0))[-3:], [[500], [0, 3], [-62]])

    def test_a_new_start_brings_its_own(self):
        self.assertEqual(last(*self.line, peak(700), start(1, 30), peak(0)), [30])


class Left(unittest.TestCase):
    line = [start(2, 500), program(100, 2, 300, 3), tray(0), tray(0)]

    def test_no_such_tray(self):
        for t in (2, 9, 10, HUGE):
            self.assertEqual(last(*self.line, left(t)), [-2], t)

    def test_not_begun(self):
        self.assertEqual(last(*self.line, left(0)), [-6])
        self.assertEqual(last(*self.line, begin(0), left(1)), [-6])
        self.assertEqual(last(*self.line, begin(0), cancel(0), left(0)), [-6])

    def test_from_the_first_minute_to_the_last(self):
        line = self.line + [pass_by(10), begin(0)]
        self.assertEqual(last(*line, left(0)), [5, 10])
        for passed, answer in ((1, [4, 10]), (3, [2, 10]), (4, [1, 10]), (5, [-2])):
            self.assertEqual(last(*line, pass_by(passed), left(0)), answer, passed)

    def test_ahead_of_its_beginning(self):
        line = self.line + [pass_by(10), wait(0, 20)]
        for passed, answer in ((1, [5, 30]), (19, [5, 30]), (20, [5, 30]), (21, [4, 30]), (24, [1, 30]), (25, [-2])):
            self.assertEqual(last(*line, pass_by(passed), left(0)), answer, passed)
        self.assertEqual(last(*line, left(0)), [5, 30])

    def test_each_tray_its_own(self):
        line = [start(2, 500), program(1, 3), program(2, 20), tray(0), tray(1), wait(1, 1), begin(0), pass_by(2)]
        self.assertEqual(ask(*line, left(0), left(1))[-2:], [[1, 0], [19, 1]])

    def test_behind_the_last_minute(self):
        line = self.line + pass_many(4998) + [begin(0), wait(1, 60)]
        self.assertEqual(ask(*line, pass_by(2), left(0), left(1))[-2:], [[3, 4998], [5, 5058]])


class Waiting(unittest.TestCase):
    line = [start(8, 500), program(10, 2), program(20, 4)]

    def test_none(self):
        self.assertEqual(last(start(1, 0), waiting()), [0])
        self.assertEqual(last(*self.line, waiting()), [0])
        self.assertEqual(last(*self.line, tray(0), tray(1), begin(0), wait(1, 30), waiting()), [0])

    def test_those_that_are_not_begun_now_or_for_later(self):
        line = self.line + [tray(0)] * 5
        self.assertEqual(ask(*line, waiting(), begin(3), waiting(), wait(0, 9), waiting(), cancel(3), waiting())[-7:],
                         [[5, 0, 1, 2, 3, 4], [2], [4, 0, 1, 2, 4], [11], [3, 1, 2, 4], [0], [4, 1, 2, 3, 4]])

    def test_ten(self):
        self.assertEqual(last(*self.line, *[tray(1)] * 11, waiting()), [10, *range(10)])

    def test_rising_though_a_number_is_given_again(self):
        line = self.line + [tray(0)] * 4 + [begin(2), begin(0), pass_by(2)]
        self.assertEqual(ask(*line, waiting(), tray(1), tray(0), waiting(), tray(0), waiting())[-6:],
                         [[2, 1, 3], [0], [2], [4, 0, 1, 2, 3], [4], [5, 0, 1, 2, 3, 4]])

    def test_what_is_refused_still_waits(self):
        line = [start(1, 9), program(10, 2), tray(0), begin(0), wait(0, 5), follow(6)]
        self.assertEqual(ask(*line, waiting(), pass_by(300), waiting(), energy())[-4:],
                         [[1, 0], [300], [1, 0], [0, 0, 0]])
