"""A programme's steps: a power and its minutes in turn."""

MOST_STEPS = 5
HIGHEST_POWER = 1000
MOST_MINUTES = 20


def steps_fit(numbers):
    if len(numbers) % 2 != 0 or not 1 <= len(numbers) // 2 <= MOST_STEPS:
        return False
    powers_fit = all([-HIGHEST_POWER <= power <= HIGHEST_POWER for power in numbers[0::2]])
    minutes_fit = all([1 <= minutes <= MOST_MINUTES for minutes in numbers[1::2]])
    return powers_fit and minutes_fit


def minute_by_minute(numbers):
    powers = []
    for at in range(0, len(numbers), 2):
        powers.extend([numbers[at]] * numbers[at + 1])
    return powers


class Programme:
    def __init__(self, numbers):
        self.powers = minute_by_minute(numbers)
        self.steps = len(numbers) // 2
