"""The floor behind a start: its programmes, its trays, and the calls on them.

Each call answers a list: the number that is answered, then what is answered beside it.
"""

from cellforming.programmes import minute_by_minute, steps_fit
from cellforming.refusals import BEGUN_BEFORE, FULL, IS_BEGUN, NO_SUCH, NOT_BEGUN, NOT_KEPT, WRONG
from cellforming.runs import burnt_in, drawn_in, end_of_all, most_used_from, run_end, top_from, used_in

MOST_PROGRAMMES = 6
MOST_TRAYS = 10
LONGEST_WAIT = 60
LONGEST_PASS = 300
LAST_MINUTE = 5000


class Tray:
    def __init__(self, powers):
        self.powers = powers
        # None as long as it waits.
        self.begun = None

    def run_from(self, minute):
        return (minute, self.powers)


class Floor:
    def __init__(self, channels, limit):
        self.channels = channels
        self.limit = limit
        self.minute = 0
        self.programmes = []
        self.trays = {}

    def program(self, numbers):
        if not steps_fit(numbers):
            return [WRONG]
        if len(self.programmes) == MOST_PROGRAMMES:
            return [FULL]
        self.programmes.append(minute_by_minute(numbers))
        return [len(self.programmes) - 1]

    def tray(self, programme):
        if programme >= len(self.programmes):
            return [NO_SUCH]
        if len(self.trays) == MOST_TRAYS:
            return [FULL]
        number = 0
        while number in self.trays:
            number += 1
        self.trays[number] = Tray(self.programmes[programme])
        return [number]

    def begin(self, number):
        return self.wait(number, 0)

    def wait(self, number, minutes):
        tray = self.trays.get(number)
        if tray is None:
            return [NO_SUCH]
        if tray.begun is not None:
            return [IS_BEGUN]
        if minutes > LONGEST_WAIT:
            return [WRONG]
        run = tray.run_from(self.minute + minutes)
        if not self.keeps(self.begun_runs() + [run]):
            return [NOT_KEPT]
        tray.begun = self.minute + minutes
        return [run_end(run)]

    def cancel(self, number):
        tray = self.trays.get(number)
        if tray is None:
            return [NO_SUCH]
        if tray.begun is None:
            return [NOT_BEGUN]
        if tray.begun < self.minute:
            return [BEGUN_BEFORE]
        others = self.begun_runs()
        # Another tray's run may be equal, but then it's the same which of both is left out.
        others.remove(tray.run_from(tray.begun))
        if not self.keeps(others):
            return [NOT_KEPT]
        tray.begun = None
        return [0]

    def pass_by(self, minutes):
        if not 1 <= minutes <= LONGEST_PASS or self.minute + minutes > LAST_MINUTE:
            return [WRONG]
        self.minute += minutes
        for number in list(self.trays):
            if self.is_through(self.trays[number]):
                self.trays.pop(number)
        return [self.minute]

    def power(self, minute):
        if not self.is_ahead(minute):
            return [WRONG]
        runs = self.begun_runs()
        return [drawn_in(runs, minute), burnt_in(runs, minute)]

    def top(self):
        runs = self.begun_runs()
        return [top_from(runs, self.minute), end_of_all(runs, self.minute)]

    def used(self, minute):
        if not self.is_ahead(minute):
            return [WRONG]
        return [used_in(self.begun_runs(), minute)]

    def begun_runs(self):
        return [tray.run_from(tray.begun) for tray in self.trays.values() if tray.begun is not None]

    def keeps(self, runs):
        if top_from(runs, self.minute) > self.limit:
            return False
        return most_used_from(runs, self.minute) <= self.channels

    def is_through(self, tray):
        return tray.begun is not None and run_end(tray.run_from(tray.begun)) <= self.minute

    def is_ahead(self, minute):
        return self.minute <= minute <= LAST_MINUTE
