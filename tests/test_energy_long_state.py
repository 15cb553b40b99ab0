"""energy, long, state: what went by, what a programme is, and what is there."""

import unittest

from tests.lines import (ask, begin, cancel, energy, follow, last, least, left, long, pass_by, pass_many, peak, power,
                         program, soonest, start, state, through, top, tray, wait)

HUGE = 4294967295


class Energy(unittest.TestCase):
    line = [start(3, 1000), program(300, 2, -200, 3), program(-50, 4), program(120, 3)]

    def test_nothing_went_by(self):
        self.assertEqual(last(start(1, 0), energy()), [0, 0, 0])
        self.assertEqual(last(*self.line, tray(0), begin(0), energy()), [0, 0, 0])

    def test_minute_by_minute(self):
        line = self.line + [tray(0), begin(0)]
        expected = ([300, 0, 0], [600, 0, 0], [600, 200, 0], [600, 400, 0], [600, 600, 1], [600, 600, 1])
        for passed, answer in enumerate(expected, 1):
            self.assertEqual(last(*line, pass_by(passed), energy()), answer, passed)
            self.assertEqual(last(*line, *[pass_by(1)] * passed, energy()), answer, passed)

    def test_what_others_take_is_not_burnt(self):
        line = self.line + [tray(0), tray(2), begin(0), wait(1, 3)]
        # 300, 300, -200, -80, -80, 120
        self.assertEqual(ask(*line, pass_by(5), energy(), pass_by(1), energy(), pass_by(300), energy())[-6:],
                         [[5], [600, 360, 1], [6], [720, 360, 2], [306], [720, 360, 2]])

    def test_drawn_less_burnt_is_taken_less_given(self):
        line = self.line + [tray(0), tray(1), tray(2), begin(0), wait(1, 1), wait(2, 4), pass_by(20)]
        # 300, 250, -250, -250, -130, 120, 120
        drawn, burnt, gone = last(*line, energy())
        self.assertEqual([drawn, burnt, gone], [790, 630, 3])
        self.assertEqual(drawn - burnt, (600 - 600) - 200 + 360)

    def test_over_trays_that_went_in_between(self):
        line = self.line + [tray(2), begin(0), pass_by(3), tray(1), begin(0), pass_by(4), tray(2), begin(0)]
        self.assertEqual(ask(*line, energy(), pass_by(1), energy(), pass_by(2), energy())[-5:],
                         [[360, 200, 2], [8], [480, 200, 2], [10], [720, 200, 3]])

    def test_begun_and_gone_within_one_pass(self):
        line = self.line + [tray(2), tray(1), wait(0, 58), wait(1, 60)]
        self.assertEqual(last(*line, pass_by(59), energy()), [120, 0, 0])
        # 120, 120, 70, -50, -50, -50
        self.assertEqual(last(*line, pass_by(300), energy()), [310, 150, 2])

    def test_a_trays_last_minute(self):
        line = self.line + [tray(2), begin(0)]
        self.assertEqual(ask(*line, pass_by(2), energy(), pass_by(1), energy())[-3:], [[240, 0, 0], [3], [360, 0, 1]])

    def test_what_is_given_back_when_nobody_takes_it(self):
        line = [start(1, 0), program(-1000, 20), tray(0), begin(0)]
        self.assertEqual(ask(*line, pass_by(19), energy(), pass_by(1), energy())[-3:],
                         [[0, 19000, 0], [20], [0, 20000, 1]])

    def test_as_much_given_as_taken(self):
        line = [start(2, 0), program(-70, 4), program(70, 4), tray(0), tray(1), begin(0), begin(1), pass_by(5)]
        self.assertEqual(last(*line, energy()), [0, 0, 2])

    def test_what_is_cancelled_or_refused_does_not_count(self):
        line = self.line + [tray(2), begin(0), cancel(0), wait(0, 2), cancel(0)]
        self.assertEqual(ask(*line, pass_by(3), energy(), begin(0), pass_by(0), pass_by(301), energy())[-5:],
                         [[0, 0, 0], [6], [-22], [-22], [0, 0, 0]])

    def test_what_is_told_ahead_is_what_went_by(self):
        line = self.line + [tray(0), tray(1), tray(2), begin(2), wait(0, 2), wait(1, 5)]
        ahead = ask(*line, *[power(m) for m in range(12)])[-12:]
        self.assertEqual(last(*line, pass_by(12), energy())[:2], [sum(column) for column in zip(*ahead)])

    def test_all_that_may_be_drawn(self):
        line = [start(8, 10000), program(*[1000, 20] * 5)]
        for _ in range(10):
            line += [tray(0)] * 8 + [begin(t) for t in range(8)] + [pass_by(100)]
        self.assertEqual(last(*line, energy()), [8000000, 0, 80])

    def test_up_to_the_last_minute(self):
        line = [start(1, 100), program(10, 20), tray(0)] + pass_many(4990) + [begin(0), pass_by(10)]
        self.assertEqual(ask(*line, energy(), pass_by(1), energy(), left(0))[-4:],
                         [[100, 0, 0], [-22], [100, 0, 0], [10, 4990]])


class Long(unittest.TestCase):
    rows = ([5, 1], [5, 20], [5, 1, 5, 1], [1, 2, -3, 4, 0, 6], [9, 1, 8, 2, 7, 3, 6, 4], [-1000, 20] * 5)
    line = [start(1, 0)] + [program(*row) for row in rows]

    def test_each_programme(self):
        self.assertEqual(ask(*self.line, *[long(p) for p in range(6)])[-6:],
                         [[1, 1], [20, 1], [2, 2], [12, 3], [10, 4], [100, 5]])

    def test_no_such_programme(self):
        self.assertEqual(last(start(1, 0), long(0)), [-2])
        self.assertEqual(ask(*self.line[:3], long(1), long(2))[-2:], [[20, 1], [-2]])
        for p in (6, 7, HUGE):
            self.assertEqual(last(*self.line, long(p)), [-2], p)

    def test_a_refused_one_is_none(self):
        self.assertEqual(last(start(1, 0), program(5, 21), long(0)), [-2])
        self.assertEqual(last(*self.line, program(5, 1), long(6)), [-2])


class State(unittest.TestCase):
    line = [start(3, 700), program(300, 2), program(10, 5), tray(0), tray(1), tray(1)]

    def test_behind_a_start(self):
        self.assertEqual(last(start(8, 10000), state()), [0, 0, 0, 8, 10000])
        self.assertEqual(last(start(1, 0), state()), [0, 0, 0, 1, 0])

    def test_what_is_there(self):
        self.assertEqual(ask(*self.line, state(), begin(0), wait(1, 9), state(), pass_by(1), state(), pass_by(1),
                             state(), tray(0), program(1, 1), state())[len(self.line):],
                         [[0, 3, 2, 3, 700], [2], [14], [0, 3, 2, 3, 700], [1], [1, 3, 2, 3, 700], [2],
                          [2, 2, 2, 3, 700], [0], [2], [2, 3, 3, 3, 700]])

    def test_the_peak_that_is(self):
        self.assertEqual(ask(*self.line, peak(20), state(), begin(0), state())[-3:],
                         [[0, 3, 2, 3, 20], [-62], [0, 3, 2, 3, 20]])

    def test_behind_a_refused_start(self):
        line = self.line + [begin(0), pass_by(1)]
        expected = [[-22], [1, 3, 2, 3, 700], [300, 0, 0], [1, 0]]
        for wrong in (start(0, 5), start(9, 5), start(2, 10001), start(HUGE, HUGE)):
            self.assertEqual(ask(*line, wrong, state(), energy(), left(0))[-4:], expected, wrong)
        self.assertEqual(ask(start(0, 5), state(), start(1, 5), state()), [[-22], [-11], [0], [0, 0, 0, 1, 5]])

    def test_behind_a_second_start(self):
        line = self.line + [begin(0), pass_by(3), peak(800), start(2, 40)]
        asked = [state(), energy(), top(), soonest(0), least(6), through(6), follow(6), left(0), [16], long(0), peak(0)]
        self.assertEqual(ask(*line, *asked)[len(line):],
                         [[0, 0, 0, 2, 40], [0, 0, 0], [0, 0], [-2], [0], [0], [0], [-2], [0], [-2], [40]])

    def test_the_last_minute(self):
        self.assertEqual(ask(*self.line, *pass_many(5000), pass_by(1), state())[-2:], [[-22], [5000, 3, 2, 3, 700]])
