"""Lines of calls, written so that a test reads like the document."""

from cellforming.hall import answers


def start(channels, peak):
    return [0, channels, peak]


def program(*numbers):
    return [1, len(numbers), *numbers]


def tray(p):
    return [2, p]


def begin(t):
    return [3, t]


def wait(t, m):
    return [4, t, m]


def cancel(t):
    return [5, t]


def pass_by(n):
    return [6, n]


def power(m):
    return [7, m]


def top():
    return [8]


def used(m):
    return [9, m]


def soonest(t):
    return [10, t]


def least(d):
    return [11, d]


def through(d):
    return [12, d]


def follow(d):
    return [13, d]


def peak(n):
    return [14, n]


def left(t):
    return [15, t]


def waiting():
    return [16]


def energy():
    return [17]


def long(p):
    return [18, p]


def state():
    return [19]


def split(numbers):
    """What each call answered, as a list of its own."""
    parts = []
    at = 0
    while at < len(numbers):
        behind = at + 1 + numbers[at]
        assert numbers[at] >= 1 and behind <= len(numbers), numbers
        parts.append(numbers[at + 1:behind])
        at = behind
    return parts


def ask(*calls):
    """What each of the calls answers, on one new object."""
    return split(answers([number for call in calls for number in call]))


def last(*calls):
    """What the last of the calls answers."""
    return ask(*calls)[-1]


def pass_many(minutes):
    """Calls by which more minutes go by than one call allows."""
    calls = [pass_by(300)] * (minutes // 300)
    if minutes % 300:
        calls.append(pass_by(minutes % 300))
    return calls
