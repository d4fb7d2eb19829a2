"""The calls about one order, and what they answer."""

from stretches.relation import how_many_moments, over_before, pairs_over, stretches_told

THINGS = 0
OVER = 1
UNDO = 2
TOLD = 3
STRETCHES = 4
AT = 5

WRONG = -1
MISSING = -3
ALREADY = -4
FORBIDDEN = -6

MOST_THINGS = 8
HIGHEST_END = 100000


class UnknownCall(ValueError):
    """A call's number that stands for no call."""


class Order:
    """The things 1 to size, and the pairs that are told of them, the last told last."""

    def __init__(self):
        self.size = 1
        self.told = []


def rows_of(order):
    return over_before(order.size, order.told)


def pair_numbers(pairs):
    """How many pairs, then both things of each."""
    numbers = [len(pairs)]
    for x, y in pairs:
        numbers.append(x)
        numbers.append(y)
    return numbers


def answer_things(order, size):
    if size < 1 or size > MOST_THINGS:
        return [WRONG]
    order.size = size
    order.told = []
    return [0]


def is_thing(order, number):
    return 1 <= number and number <= order.size


def answer_over(order, x, y):
    if not is_thing(order, x) or not is_thing(order, y) or x == y:
        return [WRONG]
    over = rows_of(order)
    if over[y][x]:
        return [FORBIDDEN]
    if over[x][y]:
        return [ALREADY]
    order.told.append((x, y))
    return [len(pairs_over(rows_of(order)))]


def answer_undo(order):
    if len(order.told) == 0:
        return [MISSING]
    order.told.pop()
    return [len(order.told)]


def are_stretches(ends):
    """Whether the numbers are the begins and ends of 1 to MOST_THINGS stretches."""
    if len(ends) % 2 == 1 or len(ends) == 0 or len(ends) > 2 * MOST_THINGS:
        return False
    if max(ends) > HIGHEST_END:
        return False
    for place in range(0, len(ends), 2):
        if ends[place + 1] < ends[place]:
            return False
    return True


def pairs_apart(ends):
    """The pairs of things of which the first's end is lower than the second's begin, in order."""
    size = len(ends) // 2
    pairs = []
    for x in range(size):
        for y in range(size):
            if ends[2 * x + 1] < ends[2 * y]:
                pairs.append((x + 1, y + 1))
    return pairs


def answer_told(order, ends):
    if not are_stretches(ends):
        return [WRONG]
    order.size = len(ends) // 2
    order.told = pairs_apart(ends)
    return pair_numbers(pairs_over(rows_of(order)))


def answer_stretches(order):
    over = rows_of(order)
    spans = stretches_told(over)
    if spans is None:
        return [FORBIDDEN]
    numbers = [how_many_moments(over)]
    for begin, end in spans:
        numbers.append(begin)
        numbers.append(end)
    return numbers


def answer_at(order, moment):
    over = rows_of(order)
    spans = stretches_told(over)
    if spans is None:
        return [FORBIDDEN]
    if moment < 1 or moment > how_many_moments(over):
        return [MISSING]
    lasting = []
    for thing, span in enumerate(spans, start=1):
        if span[0] <= moment and moment <= span[1]:
            lasting.append(thing)
    return [len(lasting)] + lasting


def how_many_numbers(calls, place):
    """How many numbers the call at the place has: its whole numbers, or those of its row."""
    call = calls[place]
    if call == TOLD:
        return calls[place + 1]
    if call == OVER:
        return 2
    if call == THINGS or call == AT:
        return 1
    return 0


def answer_call(order, call, numbers):
    if call == THINGS:
        return answer_things(order, numbers[0])
    if call == OVER:
        return answer_over(order, numbers[0], numbers[1])
    if call == UNDO:
        return answer_undo(order)
    if call == TOLD:
        return answer_told(order, numbers)
    if call == STRETCHES:
        return answer_stretches(order)
    if call == AT:
        return answer_at(order, numbers[0])
    raise UnknownCall(f"there is no call {call}")


def answers(calls):
    """For each call of the list, in order: how many numbers are answered, then these."""
    order = Order()
    given = []
    place = 0
    while place < len(calls):
        first = place + 2 if calls[place] == TOLD else place + 1
        behind = first + how_many_numbers(calls, place)
        answer = answer_call(order, calls[place], calls[first:behind])
        given.append(len(answer))
        given.extend(answer)
        place = behind
    return given
