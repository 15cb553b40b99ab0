"""least, through, follow: refusals in their order, ties, and that no other delays do better."""

import random
import unittest

from tests.lines import (ask, begin, follow, last, least, left, pass_by, pass_many, peak, program, start, state,
                         through, top, tray, wait, waiting)
from tests.trial import least_by_trial, through_by_trial

HUGE = 4294967295


class Delays(unittest.TestCase):
    """What holds of all three."""

    def test_more_than_sixty(self):
        line = [start(1, 100), program(10, 20)]
        for trays in range(11):
            for d in (61, 62, HUGE):
                for call in (least, through, follow):
                    self.assertEqual(last(*line, *[tray(0)] * trays, call(d)), [-22], (trays, d))

    def test_more_than_sixty_is_told_before_that_there_are_no_delays(self):
        line = [start(1, 0), program(1, 20), tray(0), tray(0)]
        for call in (least, through, follow):
            self.assertEqual(ask(*line, call(6), call(61))[-2:], [[-33], [-22]])

    def test_no_channel(self):
        line = [start(1, 100), program(10, 7), program(10, 3), tray(0), tray(1), begin(0)]
        for call, answer in ((least, [10, 6]), (through, [10, 6]), (follow, [10])):
            self.assertEqual(last(*line, call(6)), [-33])
            self.assertEqual(last(*line, pass_by(1), call(5)), [-33])
            self.assertEqual(last(*line, pass_by(1), call(6)), answer)

    def test_no_channel_among_those_that_wait(self):
        line = [start(1, 100), program(10, 2), tray(0), tray(0), tray(0)]
        for call, answer in ((least, [10, 0, 2, 4]), (through, [6, 0, 2, 4]), (follow, [6])):
            self.assertEqual(ask(*line, call(3), call(4))[-2:], [[-33], answer])

    def test_a_channel_that_is_free_just_now(self):
        line = [start(1, 100), program(10, 3), tray(0), tray(0), begin(0)]
        for call in (least, through, follow):
            self.assertEqual(last(*line, pass_by(2), call(0)), [-33])
        self.assertEqual(last(*line, pass_by(3), least(0)), [10, 0])
        self.assertEqual(last(*line, pass_by(3), through(0)), [6, 0])
        self.assertEqual(last(*line, pass_by(3), follow(0)), [6])

    def test_in_the_order_of_their_numbers(self):
        # Tray 1 is the last to come, but not the one with the highest number.
        line = [start(1, 100), program(10, 4), program(20, 1), tray(0), tray(1), tray(0), begin(1), pass_by(1),
                tray(1), begin(0), pass_by(4)]
        self.assertEqual(ask(*line, waiting(), least(2), through(2))[-3:], [[2, 1, 2], [20, 0, 1], [10, 0, 1]])

    def test_nothing_is_begun_by_least_and_through(self):
        line = [start(2, 100), program(10, 4), tray(0), tray(0)]
        self.assertEqual(ask(*line, least(6), through(6), waiting(), top(), begin(0), begin(1))[-6:],
                         [[10, 0, 4], [4, 0, 0], [2, 0, 1], [0, 0], [4], [4]])


class Least(unittest.TestCase):
    def test_none_waits(self):
        line = [start(1, 100), program(10, 2, 50, 1), tray(0)]
        self.assertEqual(last(start(1, 100), least(0)), [0])
        self.assertEqual(ask(*line, begin(0), least(0), least(6), pass_by(3), least(3))[-4:], [[50], [50], [3], [0]])

    def test_one_waits(self):
        line = [start(2, 500), program(100, 3), program(70, 2), tray(0), tray(1), begin(0)]
        for d, answer in ((0, [170, 0]), (1, [170, 0]), (2, [170, 0]), (3, [100, 3]), (6, [100, 3])):
            self.assertEqual(last(*line, least(d)), answer, d)

    def test_two_wait(self):
        line = [start(2, 500), program(100, 1), tray(0), tray(0)]
        for d, answer in ((0, [200, 0, 0]), (1, [100, 0, 1]), (3, [100, 0, 1]), (6, [100, 0, 1])):
            self.assertEqual(last(*line, least(d)), answer, d)

    def test_three_wait(self):
        line = [start(3, 500), program(100, 2), tray(0), tray(0), tray(0)]
        for d, answer in ((0, [300, 0, 0, 0]), (1, [300, 0, 0, 0]), (2, [200, 0, 0, 2]), (3, [200, 0, 0, 2]),
                          (4, [100, 0, 2, 4]), (6, [100, 0, 2, 4])):
            self.assertEqual(last(*line, least(d)), answer, d)

    def test_the_lesser_one_where_two_first_differ(self):
        # By 0, 2 and by 1, 0 it is 60; the sum of the delays doesn't count.
        line = [start(2, 500), program(60, 2), program(30, 1), tray(0), tray(1)]
        self.assertEqual(last(*line, least(2)), [60, 0, 2])
        self.assertEqual(last(*line, least(1)), [60, 1, 0])

    def test_the_first_goes_later_if_that_is_less(self):
        line = [start(2, 500), program(50, 3), program(40, 1, -30, 4), tray(0), tray(1)]
        self.assertEqual(last(*line, least(6)), [40, 1, 0])

    def test_no_less_than_what_is_begun_draws(self):
        line = [start(2, 500), program(400, 2, 10, 8), program(300, 2), tray(0), tray(1), begin(0)]
        self.assertEqual(ask(*line, least(1), least(2), least(6))[-3:], [[700, 0], [400, 2], [400, 2]])
        self.assertEqual(last(*line, pass_by(2), least(3)), [310, 0])

    def test_what_is_begun_for_later_counts(self):
        line = [start(2, 500), program(400, 2), program(300, 3), tray(0), tray(1), wait(0, 2)]
        self.assertEqual(ask(*line, least(3), least(4))[-2:], [[700, 0], [400, 4]])

    def test_channels_alone_not_the_peak(self):
        line = [start(2, 50), program(100, 2), program(30, 6), tray(0), tray(1), begin(1)]
        self.assertEqual(ask(*line, least(0), through(0), least(6), through(6), follow(6))[-5:],
                         [[130, 0], [-33], [100, 6], [-33], [-33]])
        self.assertEqual(last(start(1, 0), program(1000, 1), tray(0), least(0)), [1000, 0])

    def test_what_is_given_back(self):
        line = [start(2, 100), program(300, 2), program(-200, 2), tray(0), tray(1), wait(1, 3)]
        self.assertEqual(ask(*line, least(2), least(3))[-2:], [[300, 0], [100, 3]])

    def test_a_programme_that_gives_alone(self):
        line = [start(2, 0), program(-100, 5), tray(0), tray(0)]
        self.assertEqual(ask(*line, least(0), least(6))[-2:], [[0, 0, 0], [0, 0, 0]])

    def test_a_delay_beyond_the_others_end(self):
        line = [start(2, 100), program(100, 2), program(90, 1), tray(0), tray(1), begin(0)]
        self.assertEqual(ask(*line, least(6), least(2), least(1))[-3:], [[100, 2], [100, 2], [190, 0]])

    def test_behind_the_last_minute(self):
        line = [start(2, 100), program(10, 3), tray(0), tray(0)] + pass_many(4999)
        self.assertEqual(ask(*line, least(6), through(6))[-2:], [[10, 0, 3], [5002, 0, 0]])


class Through(unittest.TestCase):
    def test_none_waits(self):
        line = [start(1, 100), program(10, 2, 50, 1), tray(0)]
        self.assertEqual(ask(start(1, 100), through(0), pass_by(9), through(6))[1:], [[0], [9], [9]])
        self.assertEqual(ask(*line, wait(0, 5), through(0), pass_by(7), through(6), pass_by(1), through(3))[-5:],
                         [[8], [7], [8], [8], [8]])

    def test_one_waits(self):
        line = [start(2, 150), program(100, 3), program(70, 2), tray(0), tray(1), begin(0)]
        for d, answer in ((0, [-33]), (1, [-33]), (2, [-33]), (3, [5, 3]), (6, [5, 3])):
            self.assertEqual(last(*line, through(d)), answer, d)

    def test_two_wait(self):
        line = [start(2, 150), program(100, 1), tray(0), tray(0)]
        for d, answer in ((0, [-33]), (1, [2, 0, 1]), (3, [2, 0, 1]), (6, [2, 0, 1])):
            self.assertEqual(last(*line, through(d)), answer, d)

    def test_three_wait(self):
        line = [start(3, 250), program(100, 2), tray(0), tray(0), tray(0)]
        for d, answer in ((0, [-33]), (1, [-33]), (3, [4, 0, 0, 2]), (6, [4, 0, 0, 2])):
            self.assertEqual(last(*line, through(d)), answer, d)
            self.assertEqual(last(*line, peak(300), through(d)), [2, 0, 0, 0], d)

    def test_the_lesser_one_where_two_first_differ(self):
        # By 0, 3 and by 1, 0 all are through at 4.
        line = [start(1, 100), program(10, 3), program(10, 1), tray(0), tray(1)]
        self.assertEqual(ask(*line, through(3), through(2), through(1))[-3:], [[4, 0, 3], [4, 1, 0], [4, 1, 0]])

    def test_the_first_delays_though_another_ends_last_anyhow(self):
        line = [start(3, 100), program(50, 10), program(50, 2), program(10, 3), tray(0), tray(1), tray(2), begin(0)]
        self.assertEqual(last(*line, through(6)), [10, 0, 2])

    def test_the_first_goes_later_if_all_are_through_sooner(self):
        # Tray 0 may begin now, but then tray 1, the longer one, would have to wait.
        line = [start(2, 100), program(60, 2), program(60, 1, 0, 9), tray(0), tray(1)]
        self.assertEqual(last(*line, through(6)), [10, 1, 0])

    def test_just_the_peak_is_kept_and_one_more_is_not(self):
        line = [program(100, 1), tray(0), through(0)]
        self.assertEqual(last(start(1, 100), *line), [1, 0])
        self.assertEqual(last(start(1, 99), *line), [-33])

    def test_the_first_alone_is_too_much_but_not_with_the_second(self):
        line = [start(2, 100), program(300, 2), program(-200, 2), tray(0), tray(1)]
        self.assertEqual(ask(*line, begin(0), through(0), through(6))[-3:], [[-62], [2, 0, 0], [2, 0, 0]])
        line = [start(2, 100), program(300, 2), program(10, 2, -200, 2), tray(0), tray(1)]
        self.assertEqual(ask(*line, through(1), through(2))[-2:], [[-33], [4, 2, 0]])

    def test_a_peak_of_nothing(self):
        line = [start(2, 0), program(-5, 2), program(5, 2), tray(0), tray(1)]
        self.assertEqual(last(*line, through(6)), [2, 0, 0])
        self.assertEqual(last(*line, wait(0, 4), through(3)), [-33])
        self.assertEqual(last(*line, wait(0, 4), through(4)), [6, 4])

    def test_a_programme_that_gives_alone(self):
        line = [start(1, 0), program(-100, 5), tray(0), tray(0)]
        self.assertEqual(ask(*line, through(4), through(5))[-2:], [[-33], [10, 0, 5]])

    def test_a_delay_beyond_the_others_end(self):
        # Six minutes from now nothing runs any more, and what gives back is begun for then.
        line = [start(2, 0), program(0, 2), program(-5, 1), program(5, 1), tray(0), tray(1), tray(2), begin(0),
                wait(1, 6)]
        self.assertEqual(ask(*line, through(5), through(6))[-2:], [[-33], [7, 6]])


class Follow(unittest.TestCase):
    def test_none_waits(self):
        line = [start(1, 100), program(10, 3), tray(0)]
        self.assertEqual(ask(start(1, 100), pass_by(4), follow(0))[1:], [[4], [4]])
        self.assertEqual(ask(*line, wait(0, 5), follow(6), left(0), top())[-3:], [[8], [3, 5], [10, 8]])

    def test_all_that_wait_are_begun(self):
        line = [start(2, 100), program(60, 2), program(50, 5), tray(0), tray(1), tray(0), begin(1), pass_by(1)]
        self.assertEqual(last(*line, through(6)), [9, 4, 6])
        self.assertEqual(ask(*line, follow(6), waiting(), left(0), left(1), left(2), top(), begin(0))[-7:],
                         [[9], [0], [2, 5], [4, 0], [2, 7], [60, 9], [-17]])

    def test_what_is_refused_leaves_all_waiting(self):
        line = [start(1, 100), program(60, 2), program(50, 5), tray(0), tray(1), tray(0)]
        self.assertEqual(ask(*line, follow(3), waiting(), top(), follow(61), waiting(), follow(6), waiting())[-7:],
                         [[-33], [3, 0, 1, 2], [0, 0], [-22], [3, 0, 1, 2], [9], [0]])

    def test_they_run_and_go(self):
        line = [start(2, 100), program(60, 2), tray(0), tray(0), tray(0), follow(6)]
        self.assertEqual(ask(*line, pass_by(3), state(), pass_by(3), state())[-5:],
                         [[6], [3], [3, 2, 1, 2, 100], [6], [6, 0, 1, 2, 100]])

    def test_again_when_others_wait(self):
        line = [start(1, 100), program(60, 2), tray(0), tray(0), follow(6), tray(0)]
        self.assertEqual(ask(*line, follow(3), follow(4), left(2))[-3:], [[-33], [6], [2, 4]])


def some_levels(rnd):
    row = []
    for _ in range(rnd.randint(1, 3)):
        row += [rnd.choice((-2, -1, 0, 1, 1, 2, 2, 3)) * 50, rnd.randint(1, 4)]
    return row


def minutes_of(row):
    return [level for level, minutes in zip(row[::2], row[1::2]) for _ in range(minutes)]


class AgainstAPlainTrial(unittest.TestCase):
    """Short programmes of few powers, so that many delays do as well as others."""

    def check(self, rnd):
        channels, limit = rnd.randint(1, 4), rnd.choice((0, 50, 100, 150, 200))
        rows = [some_levels(rnd) for _ in range(4)]
        line = [start(channels, limit)] + [program(*row) for row in rows]
        net, busy = [0] * 100, [0] * 100
        for t in range(rnd.randint(0, 3)):
            p, delay = rnd.randrange(4), rnd.randint(0, 8)
            line += [tray(p), wait(t, delay)]
            if last(*line)[0] < 0:
                line = line[:-2]
                break
            for m, level in enumerate(minutes_of(rows[p]), delay):
                net[m] += level
                busy[m] += 1
        passed = rnd.randint(0, 3)
        if passed:
            line.append(pass_by(passed))
        idle = [rnd.randrange(4) for _ in range(rnd.randint(0, 3))]
        numbers = [last(*line, *[tray(p) for p in idle[:at + 1]])[0] for at in range(len(idle))]
        line += [tray(p) for p in idle]
        levels = [minutes_of(rows[p]) for _, p in sorted(zip(numbers, idle))]
        net, busy = net[passed:], busy[passed:]
        for d in (0, 1, 3, 6):
            got = ask(*line, least(d), through(d), follow(d))[-3:]
            self.assertEqual(got[0], least_by_trial(net, busy, levels, d, channels), (line, d))
            self.assertEqual(got[1], through_by_trial(net, busy, levels, d, channels, limit, passed), (line, d))
            self.assertEqual(got[2], got[1][:1], (line, d))

    def test_least_and_through(self):
        rnd = random.Random(4)
        for _ in range(250):
            self.check(rnd)
