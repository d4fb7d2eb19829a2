"""What the tests share: calls as they lie in the list, answers call by call, and orders as sets of pairs."""

import itertools

from stretches.order import answers

HIGHEST = 4294967295
UNDO = [2]
STRETCHES = [4]
LONG = [6]
TWOTWO = [7]
THREEONE = [8]
PAIRS = [9]
CROWD = [10]
TURN = [11]


def things(n):
    return [0, n]


def over(x, y):
    return [1, x, y]


def told(*ends):
    return [3, len(ends), *ends]


def at(t):
    return [5, t]


def row(*chain):
    """Calls that tell each of the chain to be over before the next."""
    return [over(x, y) for x, y in zip(chain, chain[1:])]


def line(*calls):
    """The calls one behind another."""
    return [number for call in calls for number in call]


def split(numbers):
    """The answers call by call; fails if a count doesn't fit."""
    parts = []
    place = 0
    while place < len(numbers):
        count = numbers[place]
        part = numbers[place + 1:place + 1 + count]
        if count < 1 or len(part) != count:
            raise AssertionError(f"a count does not fit at {place}: {numbers}")
        parts.append(part)
        place += 1 + count
    return parts


def ask(*calls):
    return split(answers(line(*calls)))


def last(*calls):
    return ask(*calls)[-1]


def closure(pairs):
    pairs = set(pairs)
    while True:
        more = {(x, z) for x, y in pairs for w, z in pairs if y == w} - pairs
        if not more:
            return frozenset(pairs)
        pairs |= more


def all_orders(n):
    """Each order of n things, as the set of its pairs: found by telling one pair more again and again."""
    steps = [pair for pair in itertools.product(range(1, n + 1), repeat=2) if pair[0] != pair[1]]
    found = {frozenset()}
    fresh = [frozenset()]
    while fresh:
        order = fresh.pop()
        for x, y in steps:
            if (y, x) not in order:
                more = closure(order | {(x, y)})
                if more not in found:
                    found.add(more)
                    fresh.append(more)
    return found


def told_by(spans):
    numbered = list(enumerate(spans, start=1))
    return frozenset((x, y) for x, a in numbered for y, b in numbered if a[1] < b[0])


def are_open(order, x, y):
    return x != y and (x, y) not in order and (y, x) not in order


def first_two_and_two(n, order):
    for a, b, c, d in itertools.product(range(1, n + 1), repeat=4):
        if (a, b) in order and (c, d) in order and (a, d) not in order and (c, b) not in order:
            return [a, b, c, d]
    return None


def first_three_and_one(n, order):
    for a, b, c, d in itertools.product(range(1, n + 1), repeat=4):
        if (a, b) in order and (b, c) in order and all(are_open(order, d, x) for x in (a, b, c)):
            return [a, b, c, d]
    return None


def first_crowd(n, order):
    for size in range(n, 0, -1):
        for crowd in itertools.combinations(range(1, n + 1), size):
            if all(are_open(order, x, y) for x, y in itertools.combinations(crowd, 2)):
                return list(crowd)


def pair_numbers(order):
    """How many pairs, then both things of each, in order."""
    return [len(order), *itertools.chain(*sorted(order))]


def turned(order):
    return frozenset((y, x) for x, y in order)


def told_pair_by_pair(n, order):
    """Calls that tell the order, without the pairs that follow from others."""
    needed = [(x, y) for x, y in sorted(order) if not any((x, z) in order and (z, y) in order for z in range(1, n + 1))]
    return [things(n)] + [over(x, y) for x, y in needed]


def some_order(source, n):
    """An order made pair by pair, along a shuffled row so that no pair is refused for going back."""
    row = list(range(1, n + 1))
    source.shuffle(row)
    share = source.choice((0.1, 0.3, 0.6, 0.9))
    return closure((x, y) for place, x in enumerate(row) for y in row[place + 1:] if source.random() < share)
