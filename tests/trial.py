"""A plain trial of all delays: each is laid out in full, and the best is taken of all that are allowed."""

import itertools


def laid_out(net, busy, idle, delays):
    """What's taken and how many channels are needed, with all that wait begun by these delays."""
    net, busy = list(net), list(busy)
    for delay, levels in zip(delays, idle):
        for m, level in enumerate(levels, delay):
            net[m] += level
            busy[m] += 1
    return net, busy


def all_trials(net, busy, idle, d):
    """For all delays: how many channels, the top, how many minutes till all are through, and the delays."""
    for delays in itertools.product(range(d + 1), repeat=len(idle)):
        taken, needed = laid_out(net, busy, idle, delays)
        end = max((m + 1 for m, many in enumerate(needed) if many), default=0)
        yield max(needed), max(0, *taken), end, delays


def best(allowed):
    """The least number; of those, the delays of which the lesser one stands where they first differ."""
    number, delays = min(allowed, default=(-33, ()))
    return [number, *delays]


def least_by_trial(net, busy, idle, d, channels):
    return best([(top, delays) for needed, top, _, delays in all_trials(net, busy, idle, d) if needed <= channels])


def through_by_trial(net, busy, idle, d, channels, peak, now):
    return best([(now + end, delays) for needed, top, end, delays in all_trials(net, busy, idle, d)
                 if needed <= channels and top <= peak])
