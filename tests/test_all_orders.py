"""Every order of few things, and many of eight, beside answers that are found another way."""

import itertools
import random
import unittest

from tests.lines import CROWD, LONG, PAIRS, STRETCHES, THREEONE, TURN, TWOTWO, UNDO, ask, at, over, things, told
from tests.lines import all_orders, closure, first_crowd, first_three_and_one, first_two_and_two, pair_numbers
from tests.lines import some_order, told_by, told_pair_by_pair, turned


def fewest_moments(n):
    """For each order of n things that stretches tell, with how few moments they do."""
    fewest = {}
    for moments in range(1, n + 1):
        spans = [(begin, end) for begin in range(1, moments + 1) for end in range(begin, moments + 1)]
        for chosen in itertools.product(spans, repeat=n):
            fewest.setdefault(told_by(chosen), moments)
    return fewest


def as_spans(answer):
    return [tuple(answer[place:place + 2]) for place in range(1, len(answer), 2)]


def by_the_words(n, order):
    """Moments and spans, as the document's words make them."""
    before = {y: frozenset(x for x, z in order if z == y) for y in range(1, n + 1)}
    sets = set(before.values())
    spans = [
        (1 + sum(1 for each in sets if each < before[x]), sum(1 for each in sets if x not in each))
        for x in range(1, n + 1)
    ]
    return len(sets), spans


def five_answers(n, order):
    """What pairs, twotwo, threeone, crowd and turn answer of the order."""
    crowd = first_crowd(n, order)
    return [
        pair_numbers(order),
        first_two_and_two(n, order) or [-3],
        first_three_and_one(n, order) or [-3],
        [len(crowd)] + crowd,
        pair_numbers(turned(order)),
    ]


class FewThings(unittest.TestCase):
    """Each order that there is of few things."""

    def check(self, n, how_many_orders):
        orders = all_orders(n)
        self.assertEqual(len(orders), how_many_orders)
        fewest = fewest_moments(n)
        for order in orders:
            calls = told_pair_by_pair(n, order)
            got = ask(*calls, STRETCHES)
            self.assertEqual(got[-2], [len(order)], calls)
            if order in fewest:
                moments, spans = by_the_words(n, order)
                self.assertEqual(moments, fewest[order], calls)
                self.assertEqual(got[-1][0], moments, calls)
                self.assertEqual(as_spans(got[-1]), spans, calls)
                self.assertEqual(told_by(spans), order, calls)
            else:
                self.assertEqual(got[-1], [-6], calls)
            self.check_others(n, order, calls)

    def check_others(self, n, order, calls):
        five = [PAIRS, TWOTWO, THREEONE, CROWD, TURN]
        got = ask(*calls, *five, *five)[len(calls):]
        self.assertEqual(got, five_answers(n, order) + five_answers(n, turned(order)), calls)

    def test_one(self):
        self.check(1, 1)

    def test_two(self):
        self.check(2, 3)

    def test_three(self):
        self.check(3, 19)

    def test_four(self):
        self.check(4, 219)


def some_spans(source, n):
    widest = source.choice((2, 5, 12, 100000))
    return [tuple(sorted((source.randint(0, widest), source.randint(0, widest)))) for thing in range(n)]


class ManyThings(unittest.TestCase):
    def test_by_told(self):
        source = random.Random(1)
        for turn in range(300):
            n = source.randint(1, 8)
            ends = some_spans(source, n)
            order = told_by(ends)
            moments, spans = by_the_words(n, order)
            got = ask(told(*itertools.chain(*ends)), STRETCHES, *[at(t) for t in range(moments + 2)])
            self.assertEqual(got[0], pair_numbers(order))
            self.assertEqual(got[1], [moments, *itertools.chain(*spans)])
            self.assertEqual(got[2], [-3])
            self.assertEqual(got[-1], [-3])
            for t in range(1, moments + 1):
                lasting = [x for x, span in enumerate(spans, start=1) if span[0] <= t <= span[1]]
                self.assertEqual(got[2 + t], [len(lasting), *lasting])

    def test_by_over(self):
        source = random.Random(2)
        refused = 0
        for turn in range(300):
            n = source.randint(4, 8)
            order = some_order(source, n)
            got = ask(*told_pair_by_pair(n, order), STRETCHES, at(1), at(0))
            if first_two_and_two(n, order):
                refused += 1
                self.assertEqual(got[-3:], [[-6], [-6], [-6]])
            else:
                moments, spans = by_the_words(n, order)
                lasting = [x for x, span in enumerate(spans, start=1) if span[0] == 1]
                self.assertEqual(got[-3:], [[moments, *itertools.chain(*spans)], [len(lasting), *lasting], [-3]])
        self.assertTrue(50 < refused < 250, refused)

    def test_fours_and_crowds(self):
        source = random.Random(5)
        for turn in range(200):
            n = source.randint(4, 8)
            order = some_order(source, n)
            got = ask(*told_pair_by_pair(n, order), PAIRS, TWOTWO, THREEONE, CROWD, TURN)[-5:]
            self.assertEqual(got, five_answers(n, order))

    def test_where_stretches_tell_it_a_crowd_lasts_at_one_moment(self):
        source = random.Random(6)
        for turn in range(100):
            ends = some_spans(source, source.randint(1, 8))
            moments, spans = by_the_words(len(ends), told_by(ends))
            got = ask(told(*itertools.chain(*ends)), CROWD, *[at(t) for t in range(1, moments + 1)])
            self.assertEqual(got[1][0], max(lasting[0] for lasting in got[2:]))


class Model:
    """The twelve calls once more, slowly and as the document's words tell them."""

    def __init__(self):
        self.n = 1
        self.told = []

    def order(self):
        return closure(self.told)

    def things(self, n):
        if not 1 <= n <= 8:
            return [-1]
        self.n, self.told = n, []
        return [0]

    def over(self, x, y):
        if not (1 <= x <= self.n and 1 <= y <= self.n and x != y):
            return [-1]
        if (y, x) in self.order():
            return [-6]
        if (x, y) in self.order():
            return [-4]
        self.told = self.told + [(x, y)]
        return [len(self.order())]

    def undo(self):
        if not self.told:
            return [-3]
        self.told = self.told[:-1]
        return [len(self.told)]

    def tell(self, *ends):
        spans = list(zip(ends[::2], ends[1::2]))
        wrong = len(ends) % 2 or not 1 <= len(spans) <= 8 or any(b < a for a, b in spans) or max(ends) > 100000
        if wrong:
            return [-1]
        self.n, self.told = len(spans), sorted(told_by(spans))
        return self.pairs()

    def stretches(self):
        if first_two_and_two(self.n, self.order()):
            return [-6]
        moments, spans = by_the_words(self.n, self.order())
        return [moments, *itertools.chain(*spans)]

    def at(self, t):
        if first_two_and_two(self.n, self.order()):
            return [-6]
        moments, spans = by_the_words(self.n, self.order())
        if not 1 <= t <= moments:
            return [-3]
        lasting = [x for x, span in enumerate(spans, start=1) if span[0] <= t <= span[1]]
        return [len(lasting)] + lasting

    def long(self):
        if first_two_and_two(self.n, self.order()) or first_three_and_one(self.n, self.order()):
            return [-6]
        things = range(1, self.n + 1)
        begins = dict.fromkeys(things, 0)
        # From 0 on, one that begins too early is put one later, until none does.
        while True:
            early = [
                x for x in things for y in things
                if ((y, x) in self.order() and begins[x] <= begins[y] + self.n)
                or ((x, y) not in self.order() and begins[y] > begins[x] + self.n)
            ]
            if not early:
                return list(begins.values())
            begins[early[0]] += 1

    def twotwo(self):
        return first_two_and_two(self.n, self.order()) or [-3]

    def threeone(self):
        return first_three_and_one(self.n, self.order()) or [-3]

    def pairs(self):
        return pair_numbers(self.order())

    def crowd(self):
        crowd = first_crowd(self.n, self.order())
        return [len(crowd)] + crowd

    def turn(self):
        self.told = [(y, x) for x, y in self.told]
        return self.pairs()


CALLS = [
    (things, Model.things), (over, Model.over), (lambda: UNDO, Model.undo), (told, Model.tell),
    (lambda: STRETCHES, Model.stretches), (at, Model.at), (lambda: LONG, Model.long), (lambda: TWOTWO, Model.twotwo),
    (lambda: THREEONE, Model.threeone), (lambda: PAIRS, Model.pairs), (lambda: CROWD, Model.crowd),
    (lambda: TURN, Model.turn),
]


def some_numbers(source, call):
    """Numbers for the call, now and then such as are refused."""
    if call == 0:
        return [source.choice((0, 2, 3, 4, 4, 5, 6, 7, 8, 8, 9))]
    if call == 1:
        return [source.randint(0, 8) if source.random() < 0.1 else source.randint(1, 5) for place in range(2)]
    if call == 3:
        ends = list(itertools.chain(*some_spans(source, source.randint(1, 8))))
        return ends if source.random() < 0.8 else ends[:-1] + source.choice(([], [0], [100001], [7, 7, 7]))
    if call == 5:
        return [source.randint(0, 5)]
    return []


class ListsOfThirty(unittest.TestCase):
    def test_all_twelve_calls_in_any_order(self):
        source = random.Random(7)
        for turn in range(100):
            names = list(range(12)) + source.choices(range(12), weights=[1, 12, 3, 1, 2, 2, 2, 2, 2, 2, 2, 3], k=18)
            source.shuffle(names)
            model, calls, expected = Model(), [], []
            for name in names:
                numbers = some_numbers(source, name)
                as_it_lies, by_the_model = CALLS[name]
                calls.append(as_it_lies(*numbers))
                expected.append(by_the_model(model, *numbers))
            self.assertEqual(ask(*calls), expected, calls)


if __name__ == "__main__":
    unittest.main()
