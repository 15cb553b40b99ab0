"""The promises told a second time, in another way: a timetable of sums, gone through minute by minute."""

FAR = 5400


class Model:
    def __init__(self):
        self.started = False

    def ask(self, call):
        number, rest = call[0], call[1:]
        if number == 0:
            return self.start(*rest)
        if not self.started:
            return [-11]
        if number == 1:
            return self.program(rest[1:])
        return [None, None, self.tray, self.begin, self.wait, self.cancel,
                self.pass_by, self.power, self.top, self.used][number](*rest)

    def start(self, channels, peak):
        if channels not in range(1, 9) or peak not in range(10001):
            return [-22]
        self.started = True
        self.channels, self.peak, self.now = channels, peak, 0
        self.programs = []
        self.slots = [None] * 10
        self.net = [0] * FAR
        self.busy = [0] * FAR
        return [0]

    def program(self, row):
        pairs = list(zip(row[::2], row[1::2]))
        if len(row) not in (2, 4, 6, 8, 10):
            return [-22]
        for level, minutes in pairs:
            if level not in range(-1000, 1001) or minutes not in range(1, 21):
                return [-22]
        if len(self.programs) == 6:
            return [-28]
        self.programs.append([level for level, minutes in pairs for _ in range(minutes)])
        return [len(self.programs) - 1]

    def tray(self, p):
        if p not in range(len(self.programs)):
            return [-2]
        if None not in self.slots:
            return [-28]
        t = self.slots.index(None)
        self.slots[t] = [p, None]
        return [t]

    def there(self, t):
        return t in range(10) and self.slots[t] is not None

    def lay(self, t, sign):
        p, first = self.slots[t]
        for offset, level in enumerate(self.programs[p]):
            self.net[first + offset] += sign * level
            self.busy[first + offset] += sign

    def keeps(self):
        return max(self.net[self.now:]) <= self.peak and max(self.busy[self.now:]) <= self.channels

    def begin(self, t):
        return self.wait(t, 0)

    def wait(self, t, m):
        if not self.there(t):
            return [-2]
        if self.slots[t][1] is not None:
            return [-17]
        if m not in range(61):
            return [-22]
        self.slots[t][1] = self.now + m
        self.lay(t, 1)
        if not self.keeps():
            self.lay(t, -1)
            self.slots[t][1] = None
            return [-62]
        return [self.now + m + len(self.programs[self.slots[t][0]])]

    def cancel(self, t):
        if not self.there(t):
            return [-2]
        if self.slots[t][1] is None:
            return [-6]
        if self.slots[t][1] < self.now:
            return [-16]
        self.lay(t, -1)
        if not self.keeps():
            self.lay(t, 1)
            return [-62]
        self.slots[t][1] = None
        return [0]

    def pass_by(self, n):
        if n not in range(1, 301) or self.now + n > 5000:
            return [-22]
        for _ in range(n):
            for t, slot in enumerate(self.slots):
                if slot and slot[1] is not None and slot[1] + len(self.programs[slot[0]]) - 1 == self.now:
                    self.slots[t] = None
            self.now += 1
        return [self.now]

    def power(self, m):
        if m not in range(self.now, 5001):
            return [-22]
        return [self.net[m], 0] if self.net[m] > 0 else [0, -self.net[m]]

    def top(self):
        most, behind = 0, self.now
        for m in range(self.now, FAR):
            most = max(most, self.net[m])
            if self.busy[m]:
                behind = m + 1
        return [most, behind]

    def used(self, m):
        if m not in range(self.now, 5001):
            return [-22]
        return [self.busy[m]]
