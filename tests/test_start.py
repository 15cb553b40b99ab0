"""start, and what every other call answers before a start that answers 0."""

import unittest

from tests.lines import (ask, begin, cancel, energy, follow, last, least, left, long, pass_by, peak, power, program,
                         soonest, start, state, through, top, tray, used, wait, waiting)

HUGE = 4294967295

OTHER_CALLS = (
    program(100, 1), program(), program(1, 2, 3), program(*range(60)),
    tray(0), begin(0), wait(0, 0), wait(0, 61), cancel(0), pass_by(1), pass_by(0), power(0), power(5001),
    top(), used(0), used(5001),
    soonest(0), soonest(HUGE), peak(0), peak(10001), peak(HUGE), left(0), left(HUGE), waiting(), energy(), long(0),
    long(HUGE), state(),
    *[call(d) for call in (least, through, follow) for d in (0, 6, 7, 60, 61, HUGE)],
)


class Start(unittest.TestCase):
    def test_edges_of_channels(self):
        for channels, answer in ((0, -22), (1, 0), (8, 0), (9, -22), (HUGE, -22)):
            self.assertEqual(ask(start(channels, 100)), [[answer]], channels)

    def test_edges_of_peak(self):
        for peak, answer in ((0, 0), (10000, 0), (10001, -22), (HUGE, -22)):
            self.assertEqual(ask(start(1, peak)), [[answer]], peak)

    def test_both_wrong(self):
        self.assertEqual(ask(start(0, 10001)), [[-22]])

    def test_every_other_call_before_a_start(self):
        for call in OTHER_CALLS:
            self.assertEqual(ask(call), [[-11]], call)
        self.assertEqual(ask(*OTHER_CALLS), [[-11]] * len(OTHER_CALLS))

    def test_a_refused_start_is_no_start(self):
        for call in OTHER_CALLS:
            self.assertEqual(ask(start(9, 0), call, start(1, 10001), call), [[-22], [-11], [-22], [-11]], call)

    def test_first_calls_behind_a_late_start(self):
        self.assertEqual(ask(top(), start(0, 0), top(), start(1, 0), top()),
                         [[-11], [-22], [-11], [0], [0, 0]])

    def test_a_second_start_clears_all(self):
        line = [start(1, 500), program(300, 5), tray(0), begin(0), pass_by(2), start(2, 200)]
        self.assertEqual(last(*line), [0])
        self.assertEqual(last(*line, top()), [0, 0])
        self.assertEqual(last(*line, power(0)), [0, 0])
        self.assertEqual(last(*line, used(3)), [0])
        self.assertEqual(last(*line, tray(0)), [-2])
        self.assertEqual(last(*line, begin(0)), [-2])
        self.assertEqual(last(*line, program(300, 5)), [0])
        self.assertEqual(last(*line, pass_by(1)), [1])

    def test_a_second_start_brings_its_own_peak_and_channels(self):
        line = [start(1, 500), start(2, 200), program(100, 5), program(201, 5), tray(0), tray(0), tray(1)]
        self.assertEqual(ask(*line, begin(2), begin(0), begin(1), top())[-4:], [[-62], [5], [5], [200, 5]])

    def test_a_refused_start_leaves_all_as_it_was(self):
        line = [start(1, 500), program(300, 5), tray(0), begin(0), pass_by(2), start(9, 200), start(2, 10001)]
        self.assertEqual(ask(*line, top(), tray(0), begin(1))[-5:], [[-22], [-22], [300, 5], [1], [-62]])
