"""The floor behind a start: its programmes, its trays, and the calls on them.

Each call answers a list: the number that is answered, then what is answered beside it.
"""

from cellforming.delays import plans_for
from cellforming.outlook import Outlook, burnt_of, drawn_of
from cellforming.programmes import Programme, steps_fit
from cellforming.refusals import BEGUN_BEFORE, FULL, IS_BEGUN, NO_DELAY, NO_SUCH, NOT_BEGUN, NOT_KEPT, WRONG

MOST_PROGRAMMES = 6
MOST_TRAYS = 10
HIGHEST_PEAK = 10000
LONGEST_WAIT = 60
LONGEST_PASS = 300
LAST_MINUTE = 5000


class Tray:
    def __init__(self, powers):
        self.powers = powers
        # None as long as it waits.
        self.begun = None

    def end(self):
        return self.begun + len(self.powers)


class Floor:
    def __init__(self, channels, limit):
        self.channels = channels
        self.limit = limit
        self.minute = 0
        self.programmes = []
        self.trays = {}
        # Over all minutes that went by.
        self.drawn = 0
        self.burnt = 0
        self.gone = 0

    def program(self, numbers):
        if not steps_fit(numbers):
            return [WRONG]
        if len(self.programmes) == MOST_PROGRAMMES:
            return [FULL]
        self.programmes.append(Programme(numbers))
        return [len(self.programmes) - 1]

    def tray(self, programme):
        if programme >= len(self.programmes):
            return [NO_SUCH]
        if len(self.trays) == MOST_TRAYS:
            return [FULL]
        number = 0
        while number in self.trays:
            number += 1
        self.trays[number] = Tray(self.programmes[programme].powers)
        return [number]

    def begin(self, number):
        return self.wait(number, 0)

    def wait(self, number, minutes):
        tray = self.trays.get(number)
        if tray is None:
            return [NO_SUCH]
        if tray.begun is not None:
            return [IS_BEGUN]
        if minutes > LONGEST_WAIT:
            return [WRONG]
        if not self.keeps(self.outlook().joined_by(tray.powers, minutes)):
            return [NOT_KEPT]
        tray.begun = self.minute + minutes
        return [tray.end()]

    def cancel(self, number):
        tray = self.trays.get(number)
        if tray is None:
            return [NO_SUCH]
        if tray.begun is None:
            return [NOT_BEGUN]
        if tray.begun < self.minute:
            return [BEGUN_BEFORE]
        others = [other for key, other in self.trays.items() if key != number]
        if not self.keeps(self.outlook_of(others)):
            return [NOT_KEPT]
        tray.begun = None
        return [0]

    def pass_by(self, minutes):
        if not 1 <= minutes <= LONGEST_PASS or self.minute + minutes > LAST_MINUTE:
            return [WRONG]
        for taken in self.outlook().taken[:minutes]:
            self.drawn += drawn_of(taken)
            self.burnt += burnt_of(taken)
        self.minute += minutes
        for number in list(self.trays):
            if self.is_through(self.trays[number]):
                self.trays.pop(number)
                self.gone += 1
        return [self.minute]

    def power(self, minute):
        if not self.is_ahead(minute):
            return [WRONG]
        taken = self.outlook().taken_in(minute - self.minute)
        return [drawn_of(taken), burnt_of(taken)]

    def top(self):
        ahead = self.outlook()
        return [ahead.top(), self.end_of(ahead)]

    def used(self, minute):
        if not self.is_ahead(minute):
            return [WRONG]
        return [self.outlook().needed_in(minute - self.minute)]

    def soonest(self, number):
        tray = self.trays.get(number)
        if tray is None:
            return [NO_SUCH]
        if tray.begun is not None:
            return [IS_BEGUN]
        ahead = self.outlook()
        for delay in range(LONGEST_WAIT + 1):
            if self.keeps(ahead.joined_by(tray.powers, delay)):
                return [self.minute + delay]
        return [NO_DELAY]

    def least(self, longest):
        if longest > LONGEST_WAIT:
            return [WRONG]
        plans = self.plans(longest)
        if not plans:
            return [NO_DELAY]
        best = min(plans, key=lambda plan: plan.ahead.top())
        return [best.ahead.top()] + best.delays

    def through(self, longest):
        if longest > LONGEST_WAIT:
            return [WRONG]
        plans = [plan for plan in self.plans(longest) if self.keeps(plan.ahead)]
        if not plans:
            return [NO_DELAY]
        best = min(plans, key=lambda plan: plan.ahead.how_long())
        return [self.end_of(best.ahead)] + best.delays

    def follow(self, longest):
        answered = self.through(longest)
        if answered[0] < 0:
            return answered
        for number, delay in zip(self.waiting_numbers(), answered[1:], strict=True):
            tray = self.trays[number]
            tray.begun = self.minute + delay
        return [answered[0]]

    def peak(self, limit):
        if limit > HIGHEST_PEAK:
            return [WRONG]
        if not self.outlook().keeps(limit, self.channels):
            return [NOT_KEPT]
        before = self.limit
        self.limit = limit
        return [before]

    def left(self, number):
        tray = self.trays.get(number)
        if tray is None:
            return [NO_SUCH]
        if tray.begun is None:
            return [NOT_BEGUN]
        return [tray.end() - max(self.minute, tray.begun), tray.begun]

    def waiting(self):
        numbers = self.waiting_numbers()
        return [len(numbers)] + numbers

    def energy(self):
        return [self.drawn, self.burnt, self.gone]

    def long(self, number):
        if number >= len(self.programmes):
            return [NO_SUCH]
        programme = self.programmes[number]
        return [len(programme.powers), programme.steps]

    def state(self):
        return [self.minute, len(self.trays), len(self.programmes), self.channels, self.limit]

    def waiting_numbers(self):
        return sorted([number for number, tray in self.trays.items() if tray.begun is None])

    def plans(self, longest):
        waiting = [self.trays[number].powers for number in self.waiting_numbers()]
        return plans_for(waiting, self.outlook(), longest, self.channels)

    def outlook(self):
        return self.outlook_of(list(self.trays.values()))

    def outlook_of(self, trays):
        ahead = Outlook([], [])
        for tray in trays:
            if tray.begun is not None:
                ahead = ahead.joined_by(tray.powers, tray.begun - self.minute)
        return ahead

    def end_of(self, ahead):
        return self.minute + ahead.how_long()

    def keeps(self, ahead):
        return ahead.keeps(self.limit, self.channels)

    def is_through(self, tray):
        return tray.begun is not None and tray.end() <= self.minute

    def is_ahead(self, minute):
        return self.minute <= minute <= LAST_MINUTE
