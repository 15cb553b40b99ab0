"""Many lines, drawn from a fixed seed, against the model; and what holds in each of them."""

import random
import unittest

from tests.lines import ask, begin, cancel, pass_by, power, program, start, top, tray, used, wait
from tests.model import Model

LINES = 500
MOST_CALLS = 200


def some_steps(rnd):
    row = []
    for _ in range(rnd.choice((1, 1, 2, 3, 5))):
        row += [rnd.choice((rnd.randint(-300, 300), rnd.randint(-1000, 1000), 0, 100, -100)), rnd.randint(1, 20)]
    if rnd.random() < 0.1:
        row[rnd.randrange(len(row))] = rnd.choice((-1001, 1001, 0, 20, 21, -2147483648, 2147483647))
    if rnd.random() < 0.05:
        row.pop()
    return program(*row)


def some_number(rnd, usual, odd=0.03):
    return rnd.choice((9, 10, 301, 5001, 4294967295)) if rnd.random() < odd else rnd.randrange(usual)


def some_call(rnd, now):
    kind = rnd.choices(range(10), weights=(0.3, 6, 18, 22, 14, 10, 12, 8, 6, 8))[0]
    if kind == 0:
        return start(rnd.randint(0, 9), rnd.choice((0, 300, 10000, 10001)))
    if kind == 1:
        return some_steps(rnd)
    if kind == 2:
        return tray(some_number(rnd, 4))
    if kind == 3:
        return begin(some_number(rnd, 8))
    if kind == 4:
        return wait(some_number(rnd, 8), rnd.choice((0, 1, 5, 20, 60, 61, rnd.randint(0, 61))))
    if kind == 5:
        return cancel(some_number(rnd, 8))
    if kind == 6:
        return pass_by(rnd.choice((0, 1, 1, 2, 3, 5, 20, 300, 301)))
    if kind == 8:
        return top()
    minute = now + rnd.randint(-1, 80)
    return (power if kind == 7 else used)(max(0, minute) if rnd.random() < 0.95 else rnd.choice((5000, 5001)))


def some_line(rnd):
    """A line, and what the model answers to it."""
    model = Model()
    calls = [start(rnd.choice((1, 2, 3, 8)), rnd.choice((0, 100, 300, 500, 1000, 10000)))]
    calls += [some_steps(rnd) for _ in range(4)] + [tray(rnd.randrange(4)) for _ in range(5)]
    if rnd.random() < 0.1:
        calls += [pass_by(300)] * 16 + [pass_by(rnd.randint(150, 200))]
    answered = [model.ask(call) for call in calls]
    while len(calls) < MOST_CALLS:
        call = some_call(rnd, model.now)
        calls.append(call)
        answered.append(model.ask(call))
    return calls, answered


class ManyLines(unittest.TestCase):
    def test_as_the_model_answers(self):
        rnd = random.Random(62)
        for line in range(LINES):
            calls, expected = some_line(rnd)
            answered = ask(*calls)
            for at, (got, want) in enumerate(zip(answered, expected, strict=True)):
                self.assertEqual(got, want, (line, calls[:at + 1]))

    def test_minutes_at_once_or_one_by_one(self):
        rnd = random.Random(17)
        for line in range(300):
            calls = some_line(rnd)[0]
            at_once = ask(*calls)
            slow = []
            kept = []
            for call, answer in zip(calls, at_once):
                went_by = call[0] == 6 and answer[0] >= 0
                more = [pass_by(1)] * call[1] if went_by else [call]
                if len(slow) + len(more) > MOST_CALLS:
                    break
                slow += more
                kept.append(len(slow) - 1)
            one_by_one = ask(*slow)
            self.assertEqual([one_by_one[at] for at in kept], at_once[:len(kept)], (line, calls))

    def test_never_over_the_peak_nor_more_than_channels(self):
        rnd = random.Random(33)
        for _ in range(60):
            calls = some_line(rnd)[0]
            calls = calls[:1] + [call for call in calls[1:] if call[0] != 0]
            channels, peak = calls[0][1:]
            for many in range(10, 100, 10):
                line = calls[:many]
                answered = ask(*line, top())
                now = max([0] + [answer[0] for call, answer in zip(line, answered) if call[0] == 6])
                minutes = range(now, min(answered[-1][1], now + 45, 5000) + 1)
                asked = [power(m) for m in minutes] + [used(m) for m in minutes]
                answered = ask(*line, *asked)[many:]
                for drawn, burnt in answered[:len(minutes)]:
                    self.assertTrue(0 <= drawn <= peak and burnt >= 0 and 0 in (drawn, burnt), line)
                for (needed,) in answered[len(minutes):]:
                    self.assertTrue(0 <= needed <= channels, line)
