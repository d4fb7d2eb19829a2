"""What the tests share: calls as they lie in the list, and answers call by call."""

from stretches.order import answers

HIGHEST = 4294967295
STRETCHES = [4]
UNDO = [2]


def things(n):
    return [0, n]


def over(x, y):
    return [1, x, y]


def told(*ends):
    return [3, len(ends), *ends]


def at(t):
    return [5, t]


def line(*calls):
    """The calls one behind another."""
    return [number for call in calls for number in call]


def split(numbers):
    """The answers call by call; fails if a count doesn't fit."""
    parts = []
    place = 0
    while place < len(numbers):
        count = numbers[place]
        part = numbers[place + 1:place + 1 + count]
        if count < 1 or len(part) != count:
            raise AssertionError(f"a count does not fit at {place}: {numbers}")
        parts.append(part)
        place += 1 + count
    return parts


def ask(*calls):
    return split(answers(line(*calls)))


def last(*calls):
    return ask(*calls)[-1]
