"""The calls about one order, and what they answer."""

from stretches.relation import begins_all_as_long, first_crowd, first_three_and_one, first_two_and_two
from stretches.relation import how_many_moments, over_before, pairs_over, stretches_told

THINGS = 0
OVER = 1
UNDO = 2
TOLD = 3
STRETCHES = 4
AT = 5
LONG = 6
TWO_AND_TWO = 7
THREE_AND_ONE = 8
PAIRS = 9
CROWD = 10
TURN = 11

WRONG = -1
MISSING = -3
ALREADY = -4
FORBIDDEN = -6

MOST_THINGS = 8
HIGHEST_END = 100000


class UnknownCall(ValueError):
    """A call's number that stands for no call."""


class Order:
    """The things 1 to size, and the pairs that are told of them, the last told last."""

    def __init__(self):
        self.size = 1
        self.told = []


def rows_of(order):
    return over_before(order.size, order.told)


def with_pairs(first, pairs):
    """The first number, then both numbers of each pair."""
    numbers = [first]
    for one, other in pairs:
        numbers.append(one)
        numbers.append(other)
    return numbers


def answer_pairs(order):
    pairs = pairs_over(rows_of(order))
    return with_pairs(len(pairs), pairs)


def answer_things(order, size):
    if size < 1 or size > MOST_THINGS:
        return [WRONG]
    order.size = size
    order.told = []
    return [0]


def is_thing(order, number):
    return 1 <= number and number <= order.size


def answer_over(order, x, y):
    if not is_thing(order, x) or not is_thing(order, y) or x == y:
        return [WRONG]
    over = rows_of(order)
    if over[y][x]:
        return [FORBIDDEN]
    if over[x][y]:
        return [ALREADY]
    order.told.append((x, y))
    return [len(pairs_over(rows_of(order)))]


def answer_undo(order):
    if len(order.told) == 0:
        return [MISSING]
    order.told.pop()
    return [len(order.told)]


def are_stretches(ends):
    """Whether the numbers are the begins and ends of 1 to MOST_THINGS stretches."""
    if len(ends) % 2 == 1 or len(ends) == 0 or len(ends) > 2 * MOST_THINGS:
        return False
    if max(ends) > HIGHEST_END:
        return False
    for place in range(0, len(ends), 2):
        if ends[place + 1] < ends[place]:
            return False
    return True


def pairs_apart(ends):
    """The pairs of things of which the first's end is lower than the second's begin, in order."""
    size = len(ends) // 2
    pairs = []
    for x in range(size):
        for y in range(size):
            if ends[2 * x + 1] < ends[2 * y]:
                pairs.append((x + 1, y + 1))
    return pairs


def answer_told(order, ends):
    if not are_stretches(ends):
        return [WRONG]
    order.size = len(ends) // 2
    order.told = pairs_apart(ends)
    return answer_pairs(order)


def answer_stretches(order):
    over = rows_of(order)
    spans = stretches_told(over)
    if spans is None:
        return [FORBIDDEN]
    return with_pairs(how_many_moments(over), spans)


def answer_at(order, moment):
    over = rows_of(order)
    spans = stretches_told(over)
    if spans is None:
        return [FORBIDDEN]
    if moment < 1 or moment > how_many_moments(over):
        return [MISSING]
    lasting = []
    for thing, span in enumerate(spans, start=1):
        if span[0] <= moment and moment <= span[1]:
            lasting.append(thing)
    return [len(lasting)] + lasting


def answer_long(order):
    begins = begins_all_as_long(rows_of(order))
    if begins is None:
        return [FORBIDDEN]
    return begins


def answer_four(four):
    if four is None:
        return [MISSING]
    return four


def answer_crowd(order):
    crowd = first_crowd(rows_of(order))
    return [len(crowd)] + crowd


def answer_turn(order):
    # The pairs keep their places: undo takes back the one that was told last, whichever way round.
    order.told = [(y, x) for x, y in order.told]
    return answer_pairs(order)


def how_many_numbers(calls, place):
    """How many numbers the call at the place has: its whole numbers, or those of its row."""
    call = calls[place]
    if call == TOLD:
        return calls[place + 1]
    if call == OVER:
        return 2
    if call == THINGS or call == AT:
        return 1
    return 0


def answer_call(order, call, numbers):
    if call == THINGS:
        return answer_things(order, numbers[0])
    if call == OVER:
        return answer_over(order, numbers[0], numbers[1])
    if call == UNDO:
        return answer_undo(order)
    if call == TOLD:
        return answer_told(order, numbers)
    if call == STRETCHES:
        return answer_stretches(order)
    if call == AT:
        return answer_at(order, numbers[0])
    if call == LONG:
        return answer_long(order)
    if call == TWO_AND_TWO:
        return answer_four(first_two_and_two(rows_of(order)))
    if call == THREE_AND_ONE:
        return answer_four(first_three_and_one(rows_of(order)))
    if call == PAIRS:
        return answer_pairs(order)
    if call == CROWD:
        return answer_crowd(order)
    if call == TURN:
        return answer_turn(order)
    raise UnknownCall(f"there is no call {call}")


def answers(calls):
    """For each call of the list, in order: how many numbers are answered, then these."""
    order = Order()
    given = []
    place = 0
    while place < len(calls):
        first = place + 2 if calls[place] == TOLD else place + 1
        behind = first + how_many_numbers(calls, place)
        answer = answer_call(order, calls[place], calls[first:behind])
        given.append(len(answer))
        given.extend(answer)
        place = behind
    return given
