"""soonest: refusals in their order, the edges of its 60 minutes, and the first minute that keeps to the peak."""

import unittest

from tests.lines import (ask, begin, cancel, last, pass_by, pass_many, peak, program, soonest, start, state, top, tray,
                         wait, waiting)

HUGE = 4294967295


class Soonest(unittest.TestCase):
    line = [start(2, 100), program(60, 2), program(100, 3), program(101, 1), tray(0), tray(1), tray(2)]

    def test_no_such_tray(self):
        for t in (3, 9, 10, HUGE):
            self.assertEqual(last(*self.line, soonest(t)), [-2], t)
        self.assertEqual(last(*self.line, begin(0), pass_by(2), soonest(0)), [-2])

    def test_begun_already_now_or_for_later(self):
        self.assertEqual(last(*self.line, begin(0), soonest(0)), [-17])
        self.assertEqual(last(*self.line, wait(0, 60), soonest(0)), [-17])
        self.assertEqual(last(*self.line, begin(0), pass_by(1), soonest(0)), [-17])

    def test_begun_is_told_before_that_there_is_no_minute(self):
        line = [start(1, 100), program(*[0, 20] * 5), tray(0), tray(0), begin(0)]
        self.assertEqual(ask(*line, soonest(0), soonest(1), soonest(2))[-3:], [[-17], [-33], [-2]])

    def test_a_power_that_is_always_too_much(self):
        self.assertEqual(last(*self.line, soonest(2)), [-33])

    def test_this_minute(self):
        self.assertEqual(last(*self.line, soonest(0)), [0])
        self.assertEqual(last(*self.line, pass_by(17), soonest(1)), [17])

    def test_in_sixty_minutes_and_not_within_sixty(self):
        for more, answer in ((19, 59), (20, 60)):
            line = [start(1, 0), program(0, 20, 0, 20, 0, more), tray(0), tray(0), begin(0)]
            self.assertEqual(last(*line, soonest(1)), [answer])
        line = [start(1, 0), program(0, 20, 0, 20, 0, 20, 0, 1), tray(0), tray(0), begin(0)]
        self.assertEqual(ask(*line, soonest(1), pass_by(1), soonest(1), pass_by(30), soonest(1))[-5:],
                         [[-33], [1], [61], [31], [61]])

    def test_a_gap_that_is_long_enough(self):
        line = [start(1, 100), program(10, 3), program(10, 5), program(10, 6), tray(0), tray(1), tray(2), wait(0, 5)]
        self.assertEqual(ask(*line, soonest(1), soonest(2))[-2:], [[0], [8]])
        self.assertEqual(ask(*line, pass_by(1), soonest(1), pass_by(7), soonest(1))[-4:], [[1], [8], [8], [8]])

    def test_a_gap_under_the_peak(self):
        line = [start(3, 100), program(41, 3), program(60, 5), program(60, 6), tray(0), tray(1), tray(2), wait(0, 5)]
        self.assertEqual(ask(*line, soonest(1), soonest(2))[-2:], [[0], [8]])

    def test_where_another_gives_back(self):
        line = [start(2, 100), program(150, 4), program(-50, 4), program(-50, 3), tray(0), tray(1), tray(2)]
        self.assertEqual(last(*line, wait(1, 10), soonest(0)), [10])
        self.assertEqual(last(*line, wait(2, 10), soonest(0)), [-33])
        self.assertEqual(last(*line, wait(1, 10), pass_by(11), soonest(0)), [-33])

    def test_a_channel_that_is_free_just_now(self):
        line = [start(1, 100), program(10, 4), tray(0), tray(0), begin(0)]
        self.assertEqual(ask(*line, soonest(1), pass_by(3), soonest(1), pass_by(1), soonest(1))[-5:],
                         [[4], [3], [4], [4], [4]])

    def test_a_peak_of_nothing(self):
        line = [start(2, 0), program(1, 2), program(-1, 3), program(0, 2), tray(0), tray(1), tray(2)]
        self.assertEqual(ask(*line, soonest(0), soonest(1), soonest(2), wait(1, 60), soonest(0))[-5:],
                         [[-33], [0], [0], [63], [60]])

    def test_with_another_peak(self):
        line = self.line + [peak(101)]
        self.assertEqual(ask(*line, soonest(2), begin(1), soonest(2))[-3:], [[0], [3], [3]])

    def test_it_is_not_refused_then(self):
        line = self.line + [begin(1)]
        self.assertEqual(ask(*line, soonest(0), wait(0, 2), wait(0, 3))[-3:], [[3], [-62], [5]])
        self.assertEqual(ask(*line, soonest(0), pass_by(3), soonest(0), begin(0))[-4:], [[3], [3], [3], [5]])

    def test_nothing_is_begun_by_it(self):
        self.assertEqual(ask(*self.line, soonest(0), waiting(), top(), cancel(0), state())[-5:],
                         [[0], [3, 0, 1, 2], [0, 0], [-6], [0, 3, 3, 2, 100]])

    def test_behind_the_last_minute_as_wait_takes_it(self):
        line = [start(1, 100), program(10, 4), tray(0), tray(0)] + pass_many(5000) + [begin(0)]
        self.assertEqual(ask(*line, soonest(1), wait(1, 3), wait(1, 4))[-3:], [[5004], [-62], [5008]])
