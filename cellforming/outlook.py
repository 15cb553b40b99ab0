"""What trays that are begun take and need, minute by minute, from now on."""


# What is taken is below 0 where more is given back than others take.
def drawn_of(taken):
    return max(0, taken)


def burnt_of(taken):
    return max(0, -taken)


class Outlook:
    # Both lists hold one number for each minute from now on, up to the last one in which a channel is needed.
    def __init__(self, taken, needed):
        self.taken = taken
        self.needed = needed

    # A delay below 0 is that of a tray begun before now: so many of its minutes are over.
    def joined_by(self, powers, delay):
        rest = powers[max(0, -delay):]
        first = max(0, delay)
        more = [0] * (first + len(rest) - len(self.taken))
        taken = self.taken + more
        needed = self.needed + more
        for at, power in enumerate(rest, start=first):
            taken[at] += power
            needed[at] += 1
        return Outlook(taken, needed)

    def how_long(self):
        return len(self.taken)

    def taken_in(self, delay):
        return self.taken[delay] if delay < len(self.taken) else 0

    def needed_in(self, delay):
        return self.needed[delay] if delay < len(self.needed) else 0

    def top(self):
        return drawn_of(max(self.taken, default=0))

    def has_channels(self, channels):
        return max(self.needed, default=0) <= channels

    def keeps(self, limit, channels):
        return self.top() <= limit and self.has_channels(channels)
