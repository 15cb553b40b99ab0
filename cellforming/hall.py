"""A line of calls, as one list of whole numbers, and what it answers."""

from cellforming.floor import HIGHEST_PEAK, Floor
from cellforming.refusals import NOT_STARTED, WRONG

START = 0
PROGRAM = 1
TRAY = 2
BEGIN = 3
WAIT = 4
CANCEL = 5
PASS_BY = 6
POWER = 7
TOP = 8
USED = 9
SOONEST = 10
LEAST = 11
THROUGH = 12
FOLLOW = 13
PEAK = 14
LEFT = 15
WAITING = 16
ENERGY = 17
LONG = 18
STATE = 19

# How many whole numbers stand behind each call's number; of program it's the one that tells how long its row is.
HOW_MANY = (2, 1, 1, 1, 2, 1, 1, 1, 0, 1, 1, 1, 1, 1, 1, 1, 0, 0, 1, 0)

MOST_CHANNELS = 8


class Hall:
    def __init__(self):
        # None until a start answers 0.
        self.floor = None

    def answer(self, call, numbers):
        if call == START:
            return self.start(numbers[0], numbers[1])
        if self.floor is None:
            return [NOT_STARTED]
        return answer_on(self.floor, call, numbers)

    def start(self, channels, limit):
        if not 1 <= channels <= MOST_CHANNELS or limit > HIGHEST_PEAK:
            return [WRONG]
        self.floor = Floor(channels, limit)
        return [0]


def answer_on(floor, call, numbers):
    if call == PROGRAM:
        return floor.program(numbers)
    if call == WAIT:
        return floor.wait(numbers[0], numbers[1])
    if HOW_MANY[call] == 0:
        return answer_without_number(floor, call)
    return answer_by_number(floor, call, numbers[0])


def answer_without_number(floor, call):
    if call == TOP:
        return floor.top()
    if call == WAITING:
        return floor.waiting()
    if call == ENERGY:
        return floor.energy()
    return floor.state()


def answer_by_number(floor, call, number):
    if call == TRAY:
        return floor.tray(number)
    if call == BEGIN:
        return floor.begin(number)
    if call == CANCEL:
        return floor.cancel(number)
    if call == PASS_BY:
        return floor.pass_by(number)
    if call == POWER:
        return floor.power(number)
    if call == USED:
        return floor.used(number)
    if call == SOONEST:
        return floor.soonest(number)
    if call == LEAST:
        return floor.least(number)
    if call == THROUGH:
        return floor.through(number)
    if call == FOLLOW:
        return floor.follow(number)
    if call == PEAK:
        return floor.peak(number)
    if call == LEFT:
        return floor.left(number)
    return floor.long(number)


def answers(calls):
    hall = Hall()
    answered = []
    at = 0
    while at < len(calls):
        call = calls[at]
        first = at + 1
        behind = first + HOW_MANY[call]
        if call == PROGRAM:
            first = behind
            behind = first + calls[at + 1]
        numbers = hall.answer(call, calls[first:behind])
        answered.append(len(numbers))
        answered.extend(numbers)
        at = behind
    return answered
