"""begin, wait, cancel: refusals in their order, and keeping to the peak and the channels."""

import unittest

from tests.lines import ask, begin, cancel, last, pass_by, pass_many, power, program, start, top, tray, used, wait

HUGE = 4294967295


class Begin(unittest.TestCase):
    line = [start(2, 100), program(60, 2, -50, 1), program(100, 3), program(41, 1), program(-30, 4)]

    def test_the_minute_behind_its_last_one(self):
        self.assertEqual(last(*self.line, tray(0), begin(0)), [3])
        self.assertEqual(last(*self.line, tray(0), pass_by(7), begin(0)), [10])

    def test_no_such_tray(self):
        for t in (0, 9, 10, HUGE):
            self.assertEqual(last(*self.line, begin(t)), [-2], t)
        self.assertEqual(last(*self.line, tray(0), begin(1)), [-2])

    def test_a_tray_that_is_through_is_gone(self):
        line = self.line + [tray(0), begin(0)]
        self.assertEqual(last(*line, pass_by(2), begin(0)), [-17])
        self.assertEqual(last(*line, pass_by(3), begin(0)), [-2])

    def test_begun_already_now_or_for_later(self):
        self.assertEqual(last(*self.line, tray(1), begin(0), begin(0)), [-17])
        self.assertEqual(last(*self.line, tray(0), wait(0, 20), begin(0)), [-17])

    def test_just_the_peak_is_kept_and_one_more_is_not(self):
        self.assertEqual(last(start(1, 100), program(100, 1), tray(0), begin(0)), [1])
        self.assertEqual(last(start(1, 99), program(100, 1), tray(0), begin(0)), [-62])

    def test_the_sum_counts(self):
        line = self.line + [tray(0), tray(2), begin(0)]
        self.assertEqual(last(*line, begin(1)), [-62])
        self.assertEqual(last(*line, pass_by(1), begin(1)), [-62])
        self.assertEqual(last(*line, pass_by(2), begin(1)), [3])

    def test_a_later_minute_over_the_peak(self):
        line = [start(2, 100), program(10, 5, 91, 1), program(10, 6), tray(0), tray(1), begin(0)]
        self.assertEqual(last(*line, begin(1)), [-62])

    def test_a_tray_begun_for_later_counts(self):
        line = self.line + [tray(1), tray(3), tray(0), wait(0, 2)]
        self.assertEqual(last(*line, begin(2)), [3])
        self.assertEqual(last(*line, begin(1)), [4])
        line = self.line + [tray(1), tray(2), tray(0), wait(0, 1)]
        self.assertEqual(ask(*line, begin(2), begin(1))[-2:], [[-62], [1]])

    def test_no_more_trays_than_channels(self):
        line = [start(2, 100), program(0, 3), program(-5, 3)]
        line += [tray(0), tray(1), tray(1), begin(0), begin(1)]
        self.assertEqual(last(*line, begin(2)), [-62])
        self.assertEqual(last(*line, pass_by(2), begin(2)), [-62])
        self.assertEqual(last(*line, pass_by(3), begin(2)), [6])

    def test_eight_channels(self):
        line = [start(8, 0), program(0, 1)] + [tray(0)] * 9 + [begin(t) for t in range(9)]
        self.assertEqual(ask(*line)[-9:], [[1]] * 8 + [[-62]])

    def test_a_channel_needed_later_counts(self):
        line = [start(1, 100), program(0, 3), tray(0), tray(0), wait(0, 3)]
        self.assertEqual(last(*line, begin(1)), [3])
        self.assertEqual(last(*line, pass_by(1), begin(1)), [-62])

    def test_what_is_refused_still_waits(self):
        line = [start(1, 99), program(100, 1), tray(0), begin(0)]
        self.assertEqual(ask(*line, begin(0), cancel(0), top(), used(0))[-4:], [[-62], [-6], [0, 0], [0]])

    def test_a_peak_of_nothing(self):
        line = [start(2, 0), program(1, 1), program(0, 5), program(-1, 5), tray(0), tray(1), tray(2)]
        self.assertEqual(ask(*line, begin(0), begin(1))[-2:], [[-62], [5]])
        self.assertEqual(ask(*line, begin(2), begin(0))[-2:], [[5], [1]])

    def test_the_highest_peak(self):
        line = [start(8, 10000), program(1000, 1)] + [tray(0)] * 8 + [begin(t) for t in range(8)]
        self.assertEqual(ask(*line, top())[-2:], [[1], [8000, 1]])

    def test_what_is_given_back_makes_room(self):
        line = [start(2, 100), program(150, 4), program(-50, 4), tray(0), tray(1)]
        self.assertEqual(ask(*line, begin(0), begin(1), begin(0))[-3:], [[-62], [4], [4]])

    def test_what_is_given_back_too_short_makes_no_room(self):
        line = [start(2, 100), program(150, 4), program(-50, 3), tray(0), tray(1), begin(1)]
        self.assertEqual(last(*line, begin(0)), [-62])

    def test_minutes_gone_by_are_not_asked(self):
        line = [start(2, 100), program(100, 3, 20, 3), program(80, 3), tray(0), tray(1), begin(0)]
        self.assertEqual(ask(*line, pass_by(2), begin(1), pass_by(1), begin(1))[-4:], [[2], [-62], [3], [6]])

    def test_behind_the_last_minute(self):
        line = [start(1, 100), program(100, 3), program(101, 1), tray(0), tray(1)] + pass_many(5000)
        self.assertEqual(ask(*line, begin(1), begin(0), top())[-3:], [[-62], [5003], [100, 5003]])


class Wait(unittest.TestCase):
    line = [start(2, 100), program(60, 2), program(100, 3), tray(0), tray(1)]

    def test_the_minute_behind_its_last_one(self):
        self.assertEqual(last(*self.line, wait(0, 5)), [7])
        self.assertEqual(last(*self.line, pass_by(10), wait(1, 5)), [18])

    def test_no_minutes_is_begin(self):
        self.assertEqual(ask(*self.line, wait(0, 0), power(0), power(2))[-3:], [[2], [60, 0], [0, 0]])

    def test_edges_of_minutes(self):
        for m, answer in ((0, 2), (60, 62), (61, -22), (HUGE, -22)):
            self.assertEqual(last(*self.line, wait(0, m)), [answer], m)

    def test_no_such_tray_is_told_first(self):
        for t in (2, 10, HUGE):
            for m in (0, 60, 61, HUGE):
                self.assertEqual(last(*self.line, wait(t, m)), [-2], (t, m))

    def test_begun_is_told_before_the_minutes(self):
        for m in (0, 60, 61, HUGE):
            self.assertEqual(last(*self.line, begin(0), wait(0, m)), [-17], m)
            self.assertEqual(last(*self.line, wait(0, 30), wait(0, m)), [-17], m)

    def test_the_minutes_are_told_before_the_peak(self):
        line = [start(1, 0), program(1, 1), tray(0)]
        self.assertEqual(ask(*line, wait(0, 61), wait(0, 60))[-2:], [[-22], [-62]])

    def test_the_peak_on_both_sides(self):
        line = self.line + [wait(1, 10)]
        for m, answer in ((7, 9), (8, 10), (9, -62), (12, -62), (13, 15), (14, 16)):
            self.assertEqual(last(*line, wait(0, m)), [answer], m)

    def test_the_channels_on_both_sides(self):
        line = [start(1, 100), program(0, 2), program(0, 3), tray(0), tray(1), wait(1, 10)]
        for m, answer in ((7, 9), (8, 10), (9, -62), (12, -62), (13, 15), (14, 16)):
            self.assertEqual(last(*line, wait(0, m)), [answer], m)

    def test_what_is_refused_still_waits(self):
        line = self.line + [begin(1)]
        self.assertEqual(ask(*line, wait(0, 2), cancel(0), top(), wait(0, 61), cancel(0), wait(0, 3))[-6:],
                         [[-62], [-6], [100, 3], [-22], [-6], [5]])

    def test_it_begins_by_itself(self):
        line = self.line + [wait(0, 4)]
        self.assertEqual(ask(*line, used(3), used(4), pass_by(4), power(4), pass_by(1), power(5), pass_by(1),
                             begin(0))[-8:], [[0], [1], [4], [60, 0], [5], [60, 0], [6], [-2]])


class Cancel(unittest.TestCase):
    line = [start(2, 100), program(60, 2), program(-50, 4), program(150, 4), tray(0), tray(1), tray(2)]

    def test_no_such_tray(self):
        for t in (3, 9, 10, HUGE):
            self.assertEqual(last(*self.line, cancel(t)), [-2], t)
        self.assertEqual(last(*self.line, begin(0), pass_by(2), cancel(0)), [-2])

    def test_not_begun(self):
        self.assertEqual(last(*self.line, cancel(0)), [-6])

    def test_begun_at_this_minute(self):
        self.assertEqual(ask(*self.line, begin(0), cancel(0), top(), cancel(0), begin(0))[-4:],
                         [[0], [0, 0], [-6], [2]])

    def test_begun_for_later(self):
        line = self.line + [wait(0, 5)]
        self.assertEqual(ask(*line, cancel(0), used(5), power(5))[-3:], [[0], [0], [0, 0]])
        self.assertEqual(last(*line, pass_by(4), cancel(0)), [0])
        self.assertEqual(last(*line, pass_by(5), cancel(0)), [0])

    def test_begun_before_this_minute(self):
        self.assertEqual(last(*self.line, begin(0), pass_by(1), cancel(0)), [-16])
        self.assertEqual(last(*self.line, wait(0, 5), pass_by(6), cancel(0)), [-16])

    def test_another_draws_too_much_without_it(self):
        line = self.line + [begin(1), begin(2)]
        self.assertEqual(ask(*line, cancel(1), top(), cancel(2), cancel(1))[-4:], [[-62], [100, 4], [0], [0]])

    def test_another_draws_too_much_later_without_it(self):
        line = self.line + [wait(1, 9), wait(2, 9)]
        self.assertEqual(ask(*line, cancel(1), pass_by(9), cancel(1), power(9))[-4:], [[-62], [9], [-62], [100, 0]])

    def test_begun_before_is_told_ahead_of_the_peak(self):
        self.assertEqual(last(*self.line, begin(1), begin(2), pass_by(1), cancel(1)), [-16])

    def test_it_keeps_its_number_and_programme(self):
        line = self.line + [begin(0), cancel(0)]
        self.assertEqual(ask(*line, tray(1), pass_by(30), begin(0))[-3:], [[3], [30], [32]])

    def test_its_channel_is_free_again(self):
        line = [start(1, 100), program(10, 3), tray(0), tray(0), begin(0)]
        self.assertEqual(ask(*line, begin(1), cancel(0), begin(1), begin(0))[-4:], [[-62], [0], [3], [-62]])

    def test_of_two_alike_the_one_that_is_named(self):
        line = [start(2, 100), program(10, 3), tray(0), tray(0), begin(0), begin(1)]
        self.assertEqual(ask(*line, cancel(1), used(0), begin(0), begin(1))[-4:], [[0], [1], [-17], [3]])
