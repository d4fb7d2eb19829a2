"""Every order of few things, and many of eight, beside answers that are found another way."""

import itertools
import random
import unittest

from tests.lines import STRETCHES, ask, at, over, things, told


def closure(pairs):
    pairs = set(pairs)
    while True:
        more = {(x, z) for x, y in pairs for w, z in pairs if y == w} - pairs
        if not more:
            return frozenset(pairs)
        pairs |= more


def all_orders(n):
    """Each order of n things, as the set of its pairs: found by telling one pair more again and again."""
    steps = [pair for pair in itertools.product(range(1, n + 1), repeat=2) if pair[0] != pair[1]]
    found = {frozenset()}
    fresh = [frozenset()]
    while fresh:
        order = fresh.pop()
        for x, y in steps:
            if (y, x) not in order:
                more = closure(order | {(x, y)})
                if more not in found:
                    found.add(more)
                    fresh.append(more)
    return found


def told_by(spans):
    numbered = list(enumerate(spans, start=1))
    return frozenset((x, y) for x, a in numbered for y, b in numbered if a[1] < b[0])


def fewest_moments(n):
    """For each order of n things that stretches tell, with how few moments they do."""
    fewest = {}
    for moments in range(1, n + 1):
        spans = [(begin, end) for begin in range(1, moments + 1) for end in range(begin, moments + 1)]
        for chosen in itertools.product(spans, repeat=n):
            fewest.setdefault(told_by(chosen), moments)
    return fewest


def has_two_and_two(order):
    return any(
        (a, d) not in order and (c, b) not in order
        for a, b in order for c, d in order
    )


def told_pair_by_pair(n, order):
    """Calls that tell the order, without the pairs that follow from others."""
    needed = [(x, y) for x, y in sorted(order) if not any((x, z) in order and (z, y) in order for z in range(1, n + 1))]
    return [things(n)] + [over(x, y) for x, y in needed]


def as_spans(answer):
    return [tuple(answer[place:place + 2]) for place in range(1, len(answer), 2)]


def by_the_words(n, order):
    """Moments and spans, as the document's words make them."""
    before = {y: frozenset(x for x, z in order if z == y) for y in range(1, n + 1)}
    sets = set(before.values())
    spans = [
        (1 + sum(1 for each in sets if each < before[x]), sum(1 for each in sets if x not in each))
        for x in range(1, n + 1)
    ]
    return len(sets), spans


class FewThings(unittest.TestCase):
    def check(self, n, how_many_orders):
        orders = all_orders(n)
        self.assertEqual(len(orders), how_many_orders)
        fewest = fewest_moments(n)
        for order in orders:
            calls = told_pair_by_pair(n, order)
            got = ask(*calls, STRETCHES)
            self.assertEqual(got[-2], [len(order)], calls)
            if order in fewest:
                moments, spans = by_the_words(n, order)
                self.assertEqual(moments, fewest[order], calls)
                self.assertEqual(got[-1][0], moments, calls)
                self.assertEqual(as_spans(got[-1]), spans, calls)
                self.assertEqual(told_by(spans), order, calls)
            else:
                self.assertEqual(got[-1], [-6], calls)

    def test_two(self):
        self.check(2, 3)

    def test_three(self):
        self.check(3, 19)

    def test_four(self):
        self.check(4, 219)


def some_spans(source, n):
    widest = source.choice((2, 5, 12, 100000))
    return [tuple(sorted((source.randint(0, widest), source.randint(0, widest)))) for thing in range(n)]


def some_order(source, n):
    """An order made pair by pair, along a shuffled row so that no pair is refused for going back."""
    row = list(range(1, n + 1))
    source.shuffle(row)
    share = source.choice((0.1, 0.3, 0.6, 0.9))
    return closure((x, y) for place, x in enumerate(row) for y in row[place + 1:] if source.random() < share)


class ManyThings(unittest.TestCase):
    def test_by_told(self):
        source = random.Random(1)
        for turn in range(300):
            n = source.randint(1, 8)
            ends = some_spans(source, n)
            order = told_by(ends)
            moments, spans = by_the_words(n, order)
            got = ask(told(*itertools.chain(*ends)), STRETCHES, *[at(t) for t in range(moments + 2)])
            self.assertEqual(got[0], [len(order), *itertools.chain(*sorted(order))])
            self.assertEqual(got[1], [moments, *itertools.chain(*spans)])
            self.assertEqual(got[2], [-3])
            self.assertEqual(got[-1], [-3])
            for t in range(1, moments + 1):
                lasting = [x for x, span in enumerate(spans, start=1) if span[0] <= t <= span[1]]
                self.assertEqual(got[2 + t], [len(lasting), *lasting])

    def test_by_over(self):
        source = random.Random(2)
        refused = 0
        for turn in range(300):
            n = source.randint(4, 8)
            order = some_order(source, n)
            got = ask(*told_pair_by_pair(n, order), STRETCHES, at(1), at(0))
            if has_two_and_two(order):
                refused += 1
                self.assertEqual(got[-3:], [[-6], [-6], [-6]])
            else:
                moments, spans = by_the_words(n, order)
                lasting = [x for x, span in enumerate(spans, start=1) if span[0] == 1]
                self.assertEqual(got[-3:], [[moments, *itertools.chain(*spans)], [len(lasting), *lasting], [-3]])
        self.assertTrue(50 < refused < 250, refused)


if __name__ == "__main__":
    unittest.main()
