"""A line of calls, as one list of whole numbers, and what it answers."""

from cellforming.floor import Floor
from cellforming.refusals import NOT_STARTED, WRONG

START = 0
PROGRAM = 1
TRAY = 2
BEGIN = 3
WAIT = 4
CANCEL = 5
PASS_BY = 6
POWER = 7
TOP = 8
USED = 9

# How many whole numbers stand behind each call's number; of program it's the one that tells how long its row is.
# Calls that aren't written yet are listed too: ahead of a start they are read, and refused, like all others.
HOW_MANY = (2, 1, 1, 1, 2, 1, 1, 1, 0, 1, 1, 1, 1, 1, 1, 1, 0, 0, 1, 0)

MOST_CHANNELS = 8
HIGHEST_PEAK = 10000


class Hall:
    def __init__(self):
        # None until a start answers 0.
        self.floor = None

    def answer(self, call, numbers):
        if call == START:
            return self.start(numbers[0], numbers[1])
        if self.floor is None:
            return [NOT_STARTED]
        return answer_on(self.floor, call, numbers)

    def start(self, channels, limit):
        if not 1 <= channels <= MOST_CHANNELS or limit > HIGHEST_PEAK:
            return [WRONG]
        self.floor = Floor(channels, limit)
        return [0]


def answer_on(floor, call, numbers):
    if call == PROGRAM:
        return floor.program(numbers)
    if call == TRAY:
        return floor.tray(numbers[0])
    if call == BEGIN:
        return floor.begin(numbers[0])
    if call == WAIT:
        return floor.wait(numbers[0], numbers[1])
    if call == CANCEL:
        return floor.cancel(numbers[0])
    if call == PASS_BY:
        return floor.pass_by(numbers[0])
    if call == POWER:
        return floor.power(numbers[0])
    if call == TOP:
        return floor.top()
    if call == USED:
        return floor.used(numbers[0])
    raise NotImplementedError(f"call {call} is not written yet")


def answers(calls):
    hall = Hall()
    answered = []
    at = 0
    while at < len(calls):
        call = calls[at]
        first = at + 1
        behind = first + HOW_MANY[call]
        if call == PROGRAM:
            first = behind
            behind = first + calls[at + 1]
        numbers = hall.answer(call, calls[first:behind])
        answered.append(len(numbers))
        answered.extend(numbers)
        at = behind
    return answered
