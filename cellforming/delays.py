"""Delays for all trays that wait: each begins so many minutes from now."""


class Plan:
    def __init__(self, delays, ahead):
        self.delays = delays
        self.ahead = ahead

    def with_one_more(self, powers, delay):
        return Plan(self.delays + [delay], self.ahead.joined_by(powers, delay))


# Every choice of delays up to the longest by which there are channels enough. Where two first differ, the one with the
# lesser delay stands first, so the first of several that do as well is the one to answer.
def plans_for(waiting, ahead, longest, channels):
    plans = [Plan([], ahead)]
    for powers in waiting:
        longer = []
        for plan in plans:
            tried = [plan.with_one_more(powers, delay) for delay in range(longest + 1)]
            # A further tray never frees a channel, so what lacks one now would lack it with all trays.
            longer.extend([one for one in tried if one.ahead.has_channels(channels)])
        plans = longer
    return plans
