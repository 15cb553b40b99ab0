"""Many lines, drawn from a fixed seed, against the model; and what holds in each of them."""

import random
import unittest

from tests.lines import (ask, begin, cancel, energy, follow, last, least, left, long, pass_by, peak, power, program,
                         soonest, start, state, through, top, tray, used, wait, waiting)
from tests.model import Model

LINES = 400
MOST_CALLS = 200
HUGE = 4294967295
WEIGHTS = (0.3, 6, 18, 22, 14, 10, 14, 6, 4, 6, 8, 3, 3, 2, 3, 5, 3, 4, 2, 3)


def some_steps(rnd):
    row = []
    for _ in range(rnd.choice((1, 1, 2, 3, 5))):
        row += [rnd.choice((rnd.randint(-300, 300), rnd.randint(-1000, 1000), 0, 100, -100)), rnd.randint(1, 20)]
    if rnd.random() < 0.1:
        row[rnd.randrange(len(row))] = rnd.choice((-1001, 1001, 0, 20, 21, -2147483648, 2147483647))
    if rnd.random() < 0.05:
        row.pop()
    return program(*row)


def some_number(rnd, usual, odd=0.03):
    return rnd.choice((9, 10, 301, 5001, HUGE)) if rnd.random() < odd else rnd.randrange(usual)


def some_minute(rnd, now):
    return max(0, now + rnd.randint(-1, 80)) if rnd.random() < 0.95 else rnd.choice((5000, 5001))


def some_delay(rnd, idle):
    """As far as least, through and follow may be asked at all."""
    return rnd.choice((0, 1, 3, 6, 6, rnd.randint(0, 6), 61) if idle <= 3 else (61, HUGE))


def some_call(rnd, now, idle):
    kind = rnd.choices(range(20), weights=WEIGHTS)[0]
    if kind == 0:
        return start(rnd.randint(0, 9), rnd.choice((0, 300, 10000, 10001)))
    if kind == 1:
        return some_steps(rnd)
    if kind in (2, 18):
        return [kind, some_number(rnd, 4)]
    if kind in (3, 5, 10, 15):
        return [kind, some_number(rnd, 8)]
    if kind == 4:
        return wait(some_number(rnd, 8), rnd.choice((0, 1, 5, 20, 60, 61, rnd.randint(0, 61))))
    if kind == 6:
        return pass_by(rnd.choice((0, 1, 1, 2, 3, 5, 20, 300, 301)))
    if kind in (7, 9):
        return [kind, some_minute(rnd, now)]
    if kind in (11, 12, 13):
        return [kind, some_delay(rnd, idle)]
    if kind == 14:
        return peak(rnd.choice((0, 100, 300, 500, 1000, 10000, 10001, rnd.randint(0, 1500))))
    return [kind]


def some_line(rnd, many=MOST_CALLS):
    """A line, and what the model answers to it."""
    model = Model()
    calls = [start(rnd.choice((1, 2, 3, 8)), rnd.choice((0, 100, 300, 500, 1000, 10000)))]
    calls += [some_steps(rnd) for _ in range(4)] + [tray(rnd.randrange(4)) for _ in range(rnd.choice((2, 3, 5)))]
    if rnd.random() < 0.1:
        calls += [pass_by(300)] * 16 + [pass_by(rnd.randint(150, 200))]
    answered = [model.ask(call) for call in calls]
    while len(calls) < many:
        call = some_call(rnd, model.now, len(model.idle()))
        calls.append(call)
        answered.append(model.ask(call))
    return calls, answered


class ManyLines(unittest.TestCase):
    def test_as_the_model_answers(self):
        rnd = random.Random(62)
        for line in range(LINES):
            calls, expected = some_line(rnd)
            answered = ask(*calls)
            for at, (got, want) in enumerate(zip(answered, expected, strict=True)):
                self.assertEqual(got, want, (line, calls[:at + 1]))

    def test_no_call_goes_without_both_kinds_of_answer(self):
        """So that the lines above do ask what they are there to ask."""
        rnd = random.Random(62)
        seen = {}
        for _ in range(100):
            for call, answer in zip(*some_line(rnd)):
                key = call[0], min(0, answer[0])
                seen[key] = seen.get(key, 0) + 1
        for key in ((10, 0), (10, -2), (10, -17), (10, -33), (11, 0), (11, -22), (11, -33), (12, 0), (12, -22),
                    (12, -33), (13, 0), (13, -22), (13, -33), (14, 0), (14, -22), (14, -62), (15, 0), (15, -2),
                    (15, -6), (16, 0), (17, 0), (18, 0), (18, -2), (19, 0)):
            self.assertGreater(seen.get(key, 0), 2, key)

    def test_minutes_at_once_or_one_by_one(self):
        rnd = random.Random(17)
        for line in range(200):
            calls = some_line(rnd)[0]
            at_once = ask(*calls)
            slow = []
            kept = []
            for call, answer in zip(calls, at_once):
                went_by = call[0] == 6 and answer[0] >= 0
                more = [pass_by(1)] * call[1] if went_by else [call]
                if len(slow) + len(more) > MOST_CALLS:
                    break
                slow += more
                kept.append(len(slow) - 1)
            one_by_one = ask(*slow)
            self.assertEqual([one_by_one[at] for at in kept], at_once[:len(kept)], (line, calls))

    def test_never_over_the_peak_nor_more_than_channels(self):
        rnd = random.Random(33)
        for _ in range(60):
            calls = some_line(rnd, 100)[0]
            for many in range(10, 100, 10):
                line = calls[:many]
                (most, end), (now, _, _, channels, limit) = ask(*line, top(), state())[many:]
                self.assertLessEqual(most, limit)
                minutes = range(now, min(end, now + 45, 5000) + 1)
                asked = [power(m) for m in minutes] + [used(m) for m in minutes]
                answered = ask(*line, *asked)[many:]
                for drawn, burnt in answered[:len(minutes)]:
                    self.assertTrue(0 <= drawn <= limit and burnt >= 0 and 0 in (drawn, burnt), line)
                for (needed,) in answered[len(minutes):]:
                    self.assertTrue(0 <= needed <= channels, line)

    def test_energy_is_the_power_of_all_minutes_gone_by(self):
        rnd = random.Random(5)
        for _ in range(60):
            line = some_line(rnd, rnd.randint(15, 60))[0]
            (now, *_), before = ask(*line, state(), energy())[-2:]
            minutes = range(now, min(now + 60, 5000))
            powers = ask(*line, *[power(m) for m in minutes])[len(line):]
            if not powers:
                continue
            _, behind = ask(*line, pass_by(len(minutes)), energy())[-2:]
            self.assertEqual(behind[:2], [old + sum(column) for old, column in zip(before, zip(*powers))], line)

    def test_no_minute_ahead_of_soonest_is_taken(self):
        rnd = random.Random(7)
        for _ in range(60):
            line = some_line(rnd, rnd.randint(20, 80))[0]
            (now, *_), (_, *idle) = ask(*line, state(), waiting())[-2:]
            for t in idle[:2]:
                (first,) = last(*line, soonest(t))
                delay = 61 if first == -33 else first - now
                self.assertIn(delay, range(62), line)
                # What wait takes changes all that's asked behind it, but the first one that it takes is the last asked.
                tried = ask(*line, *[wait(t, m) for m in range(min(delay + 1, 61))])[len(line):]
                self.assertEqual(tried[:delay], [[-62]] * delay, line)
                if delay < 61:
                    self.assertGreater(tried[delay][0], first, line)
                    self.assertEqual(last(*line, pass_by(delay), begin(t)) if delay else tried[0],
                                     tried[delay] if now + delay <= 5000 else [-62], line)

    def test_what_through_tells_is_what_follow_does(self):
        rnd = random.Random(9)
        followed = 0
        for _ in range(150):
            line = some_line(rnd, rnd.randint(12, 60))[0]
            (now, *_), (many, *idle) = ask(*line, state(), waiting())[-2:]
            if many > 3:
                continue
            d = rnd.choice((0, 1, 3, 6))
            told = last(*line, through(d))
            behind = ask(*line, follow(d), waiting(), top(), *[left(t) for t in idle])[len(line):]
            self.assertEqual(behind[0], told[:1], line)
            if told[0] < 0:
                self.assertEqual(behind[1], [many, *idle], line)
                continue
            self.assertEqual(behind[1], [0], line)
            self.assertEqual(behind[2][1], told[0], line)
            self.assertEqual([first for _, first in behind[3:]], [now + delay for delay in told[1:]], line)
            followed += many > 0
        self.assertGreater(followed, 20)

    def test_what_only_asks_changes_nothing(self):
        rnd = random.Random(11)
        for _ in range(60):
            line, expected = some_line(rnd, 66)
            idle = last(*line, waiting())[0]
            asked = [soonest(0), soonest(1), least(61), through(61), left(0), left(1), waiting(), energy(), long(0),
                     state(), top()]
            if idle <= 3:
                asked += [least(6), through(6), least(0), through(0)]
            first = ask(*line, *asked, *asked)
            self.assertEqual(first[:66], expected)
            self.assertEqual(first[66:66 + len(asked)], first[66 + len(asked):], line)
