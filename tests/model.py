"""The promises told a second time, in another way: a timetable of sums, gone through minute by minute."""

from tests.trial import least_by_trial, through_by_trial

FAR = 5400
# No tray is begun for later than in 60 minutes, and none takes longer than 100.
SEEN = 200


class Model:
    def __init__(self):
        self.started = False

    def ask(self, call):
        number, rest = call[0], call[1:]
        if number == 0:
            return self.start(*rest)
        if not self.started:
            return [-11]
        if number == 1:
            return self.program(rest[1:])
        return [None, None, self.tray, self.begin, self.wait, self.cancel,
                self.pass_by, self.power, self.top, self.used, self.soonest, self.least, self.through, self.follow,
                self.set_peak, self.left, self.waiting, self.energy, self.long, self.state][number](*rest)

    def start(self, channels, peak):
        if channels not in range(1, 9) or peak not in range(10001):
            return [-22]
        self.started = True
        self.channels, self.peak, self.now = channels, peak, 0
        self.programs, self.steps = [], []
        self.slots = [None] * 10
        self.net = [0] * FAR
        self.busy = [0] * FAR
        self.over = 0
        return [0]

    def program(self, row):
        pairs = list(zip(row[::2], row[1::2]))
        if len(row) not in (2, 4, 6, 8, 10):
            return [-22]
        for level, minutes in pairs:
            if level not in range(-1000, 1001) or minutes not in range(1, 21):
                return [-22]
        if len(self.programs) == 6:
            return [-28]
        self.programs.append([level for level, minutes in pairs for _ in range(minutes)])
        self.steps.append(len(pairs))
        return [len(self.programs) - 1]

    def tray(self, p):
        if p not in range(len(self.programs)):
            return [-2]
        if None not in self.slots:
            return [-28]
        t = self.slots.index(None)
        self.slots[t] = [p, None]
        return [t]

    def there(self, t):
        return t in range(10) and self.slots[t] is not None

    def lay(self, t, sign):
        p, first = self.slots[t]
        for offset, level in enumerate(self.programs[p]):
            self.net[first + offset] += sign * level
            self.busy[first + offset] += sign

    def keeps(self):
        seen = slice(self.now, self.now + SEEN)
        return max(self.net[seen]) <= self.peak and max(self.busy[seen]) <= self.channels

    def begin(self, t):
        return self.wait(t, 0)

    def wait(self, t, m):
        if not self.there(t):
            return [-2]
        if self.slots[t][1] is not None:
            return [-17]
        if m not in range(61):
            return [-22]
        self.slots[t][1] = self.now + m
        self.lay(t, 1)
        if not self.keeps():
            self.lay(t, -1)
            self.slots[t][1] = None
            return [-62]
        return [self.now + m + len(self.programs[self.slots[t][0]])]

    def cancel(self, t):
        if not self.there(t):
            return [-2]
        if self.slots[t][1] is None:
            return [-6]
        if self.slots[t][1] < self.now:
            return [-16]
        self.lay(t, -1)
        if not self.keeps():
            self.lay(t, 1)
            return [-62]
        self.slots[t][1] = None
        return [0]

    def pass_by(self, n):
        if n not in range(1, 301) or self.now + n > 5000:
            return [-22]
        for _ in range(n):
            for t, slot in enumerate(self.slots):
                if slot and slot[1] is not None and slot[1] + len(self.programs[slot[0]]) - 1 == self.now:
                    self.slots[t] = None
                    self.over += 1
            self.now += 1
        return [self.now]

    def power(self, m):
        if m not in range(self.now, 5001):
            return [-22]
        return [self.net[m], 0] if self.net[m] > 0 else [0, -self.net[m]]

    def top(self):
        most, behind = 0, self.now
        for m in range(self.now, self.now + SEEN):
            most = max(most, self.net[m])
            if self.busy[m]:
                behind = m + 1
        return [most, behind]

    def used(self, m):
        if m not in range(self.now, 5001):
            return [-22]
        return [self.busy[m]]

    def soonest(self, t):
        for m in range(61):
            answer = self.wait(t, m)[0]
            if answer in (-2, -17):
                return [answer]
            if answer >= 0:
                self.lay(t, -1)
                self.slots[t][1] = None
                return [self.now + m]
        return [-33]

    def idle(self):
        return [t for t, slot in enumerate(self.slots) if slot and slot[1] is None]

    def ahead(self):
        seen = slice(self.now, self.now + SEEN)
        return self.net[seen], self.busy[seen], [self.programs[self.slots[t][0]] for t in self.idle()]

    def least(self, d):
        return [-22] if d > 60 else least_by_trial(*self.ahead(), d, self.channels)

    def through(self, d):
        return [-22] if d > 60 else through_by_trial(*self.ahead(), d, self.channels, self.peak, self.now)

    def follow(self, d):
        end, *delays = self.through(d)
        if end >= 0:
            for t, delay in zip(self.idle(), delays, strict=True):
                self.slots[t][1] = self.now + delay
                self.lay(t, 1)
        return [end]

    def set_peak(self, n):
        if n not in range(10001):
            return [-22]
        before, self.peak = self.peak, n
        if not self.keeps():
            self.peak = before
            return [-62]
        return [before]

    def left(self, t):
        if not self.there(t):
            return [-2]
        p, first = self.slots[t]
        if first is None:
            return [-6]
        return [len([m for m in range(first, first + len(self.programs[p])) if m >= self.now]), first]

    def waiting(self):
        return [len(self.idle()), *self.idle()]

    def energy(self):
        gone_by = self.net[:self.now]
        return [sum(level for level in gone_by if level > 0), -sum(level for level in gone_by if level < 0), self.over]

    def long(self, p):
        if p not in range(len(self.programs)):
            return [-2]
        return [len(self.programs[p]), self.steps[p]]

    def state(self):
        return [self.now, len([slot for slot in self.slots if slot]), len(self.programs), self.channels, self.peak]
