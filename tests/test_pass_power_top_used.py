"""pass, power, top, used, and the corners that they show."""

import unittest

from tests.lines import ask, begin, last, pass_by, pass_many, power, program, start, top, tray, used, wait

HUGE = 4294967295
OPEN = start(3, 1000)


class PassBy(unittest.TestCase):
    def test_edges_of_minutes(self):
        for n, answer in ((0, -22), (1, 1), (300, 300), (301, -22), (HUGE, -22)):
            self.assertEqual(ask(OPEN, pass_by(n)), [[0], [answer]], n)

    def test_up_to_the_last_minute(self):
        line = [OPEN] + pass_many(4999)
        self.assertEqual(ask(*line, pass_by(2), pass_by(1), pass_by(1), pass_by(300))[-5:],
                         [[4999], [-22], [5000], [-22], [-22]])
        line = [OPEN] + pass_many(4700)
        self.assertEqual(last(*line, pass_by(300)), [5000])
        self.assertEqual(last(*line, pass_by(1), pass_by(300)), [-22])

    def test_what_is_refused_leaves_the_minute(self):
        self.assertEqual(ask(OPEN, pass_by(5), pass_by(0), pass_by(301), top(), pass_by(1))[1:],
                         [[5], [-22], [-22], [0, 5], [6]])

    def test_trays_that_wait_stay(self):
        line = [OPEN, program(5, 1), tray(0)] + pass_many(1000)
        self.assertEqual(last(*line, begin(0)), [1001])

    def test_minutes_at_once_or_one_by_one(self):
        line = [OPEN, program(300, 3, -200, 2), program(-100, 4), program(250, 2, 50, 3, 400, 1)]
        line += [tray(0), tray(1), tray(2), tray(2), tray(0)]
        line += [begin(0), wait(1, 2), wait(2, 4), wait(3, 30)]
        for minutes in range(1, 45):
            behind = [top(), tray(1), begin(0), begin(4), begin(1)]
            behind += [power(m) for m in range(minutes, minutes + 45)]
            behind += [used(m) for m in range(minutes, minutes + 45)]
            at_once = ask(*line, pass_by(minutes), *behind)
            one_by_one = ask(*line, *[pass_by(1)] * minutes, *behind)
            self.assertEqual(at_once[-len(behind) - 1:], one_by_one[-len(behind) - 1:], minutes)


class Power(unittest.TestCase):
    line = [OPEN, program(300, 2, -200, 2), program(50, 3), program(-70, 2), tray(0), tray(1), tray(2)]

    def test_edges_of_the_minute(self):
        line = [OPEN, pass_by(10)]
        for m, answer in ((0, [-22]), (9, [-22]), (10, [0, 0]), (11, [0, 0]), (5000, [0, 0]), (5001, [-22]),
                          (HUGE, [-22])):
            self.assertEqual(last(*line, power(m)), answer, m)

    def test_none_begun(self):
        self.assertEqual(last(*self.line, power(0)), [0, 0])

    def test_minute_by_minute(self):
        line = self.line + [begin(0), wait(1, 1)]
        expected = [[300, 0], [350, 0], [0, 150], [0, 150], [0, 0]]
        self.assertEqual(ask(*line, *[power(m) for m in range(5)])[-5:], expected)

    def test_what_nobody_takes_is_burnt(self):
        line = self.line + [begin(2)]
        self.assertEqual(ask(*line, power(0), power(1), power(2))[-3:], [[0, 70], [0, 70], [0, 0]])

    def test_what_another_takes_is_not_burnt(self):
        line = self.line + [begin(2), begin(1)]
        self.assertEqual(ask(*line, power(0), power(1), power(2))[-3:], [[0, 20], [0, 20], [50, 0]])

    def test_as_much_given_as_taken(self):
        line = [OPEN, program(80, 1), program(-80, 1), tray(0), tray(1), begin(0), begin(1)]
        self.assertEqual(ask(*line, power(0), used(0))[-2:], [[0, 0], [2]])

    def test_several_steps_of_one_programme(self):
        line = [OPEN, program(1, 1, 2, 2, -3, 1, 0, 1, 5, 2), tray(0), begin(0)]
        self.assertEqual(ask(*line, *[power(m) for m in range(8)])[-8:],
                         [[1, 0], [2, 0], [2, 0], [0, 3], [0, 0], [5, 0], [5, 0], [0, 0]])

    def test_five_long_steps(self):
        line = [OPEN, program(100, 20, 200, 20, 300, 20, 400, 20, 500, 20), tray(0), wait(0, 60)]
        for m, drawn in ((59, 0), (60, 100), (79, 100), (80, 200), (139, 400), (140, 500), (159, 500), (160, 0)):
            self.assertEqual(last(*line, power(m)), [drawn, 0], m)

    def test_the_last_minute_of_all(self):
        line = [OPEN, program(10, 1, -20, 5), tray(0)] + pass_many(4999) + [begin(0)]
        self.assertEqual(ask(*line, power(4999), power(5000), power(5001), pass_by(1), power(4999), power(5000))[-6:],
                         [[10, 0], [0, 20], [-22], [5000], [-22], [0, 20]])


class Top(unittest.TestCase):
    def test_none_begun(self):
        self.assertEqual(ask(OPEN, top(), program(5, 1), tray(0), top(), pass_by(9), top()),
                         [[0], [0, 0], [0], [0], [0, 0], [9], [0, 9]])

    def test_the_most_from_now_on(self):
        line = [OPEN, program(300, 2, 100, 2, 200, 2), tray(0), begin(0)]
        self.assertEqual(last(*line, top()), [300, 6])
        for passed, most in ((1, 300), (2, 200), (4, 200), (5, 200)):
            self.assertEqual(last(*line, pass_by(passed), top()), [most, 6], passed)
        self.assertEqual(last(*line, pass_by(6), top()), [0, 6])
        self.assertEqual(last(*line, pass_by(7), top()), [0, 7])

    def test_trays_begun_for_later(self):
        line = [OPEN, program(300, 2), program(10, 1), tray(0), tray(1), begin(1), wait(0, 40)]
        self.assertEqual(ask(*line, top(), pass_by(20), top())[-3:], [[300, 42], [20], [300, 42]])

    def test_the_last_to_end_is_not_the_last_begun(self):
        line = [OPEN, program(10, 20), program(90, 2), tray(0), tray(1), begin(0), wait(1, 5)]
        self.assertEqual(last(*line, top()), [100, 20])

    def test_a_programme_that_gives_alone(self):
        line = [start(1, 0), program(-1000, 20), tray(0), begin(0)]
        self.assertEqual(ask(*line, top(), power(0), power(19), power(20))[-4:],
                         [[0, 20], [0, 1000], [0, 1000], [0, 0]])

    def test_a_channel_is_needed_at_no_power(self):
        line = [start(1, 0), program(0, 7), tray(0), begin(0)]
        self.assertEqual(ask(*line, top(), used(6), used(7))[-3:], [[0, 7], [1], [0]])

    def test_beyond_the_last_minute(self):
        line = [OPEN, program(10, 10, 20, 10), tray(0)] + pass_many(4995) + [begin(0)]
        self.assertEqual(last(*line, top()), [20, 5015])


class Used(unittest.TestCase):
    line = [OPEN, program(10, 2), program(-10, 5), tray(0), tray(1), tray(0), begin(0), wait(1, 1), wait(2, 2)]

    def test_edges_of_the_minute(self):
        line = [OPEN, pass_by(10)]
        for m, answer in ((0, -22), (9, -22), (10, 0), (11, 0), (5000, 0), (5001, -22), (HUGE, -22)):
            self.assertEqual(last(*line, used(m)), [answer], m)

    def test_minute_by_minute(self):
        self.assertEqual(ask(*self.line, *[used(m) for m in range(7)])[-7:], [[1], [2], [2], [2], [1], [1], [0]])

    def test_this_minute_and_the_one_before(self):
        self.assertEqual(ask(*self.line, pass_by(3), used(2), used(3), used(4))[-3:], [[-22], [2], [1]])

    def test_a_channel_that_is_free_just_now(self):
        line = [start(1, 100), program(100, 2), tray(0), tray(0), begin(0)]
        self.assertEqual(ask(*line, wait(1, 1), wait(1, 2), used(1), used(2), top())[-5:],
                         [[-62], [4], [1], [1], [100, 4]])
        self.assertEqual(ask(*line, pass_by(1), begin(1), pass_by(1), begin(1))[-4:], [[1], [-62], [2], [4]])
