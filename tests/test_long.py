"""long: stretches all as long, each begun as early as can be."""

import itertools
import random
import unittest

from stretches.order import answers
from tests.lines import LONG, STRETCHES, TURN, UNDO, ask, last, over, row, things, told
from tests.lines import all_orders, first_three_and_one, first_two_and_two, some_order, told_by, told_pair_by_pair


def told_by_long(begins):
    """The pairs that stretches as long as there are things tell."""
    return told_by([(begin, begin + len(begins)) for begin in begins])


def earliest_by_search(n):
    """For each order of n things that stretches all as long tell, how early each thing can begin in any telling."""
    earliest = {}
    for begins in itertools.product(range(n * (n + 1)), repeat=n):
        order = told_by_long(begins)
        known = earliest.setdefault(order, begins)
        earliest[order] = tuple(map(min, known, begins))
    return earliest


class Long(unittest.TestCase):
    def test_the_whole_list(self):
        self.assertEqual(answers([0, 3, 1, 1, 2, 6]), [1, 0, 1, 1, 3, 0, 4, 1])

    def test_a_new_object(self):
        self.assertEqual(answers([6]), [1, 0])

    def test_nothing_told(self):
        for n in range(1, 9):
            self.assertEqual(last(things(n), LONG), [0] * n)

    def test_two_things(self):
        self.assertEqual(last(things(2), over(1, 2), LONG), [0, 3])
        self.assertEqual(last(things(2), over(2, 1), LONG), [3, 0])

    def test_all_in_one_row(self):
        self.assertEqual(last(things(3), *row(1, 2, 3), LONG), [0, 4, 8])
        self.assertEqual(last(things(8), *row(1, 2, 3, 4, 5, 6, 7, 8), LONG), [0, 9, 18, 27, 36, 45, 54, 63])
        self.assertEqual(last(things(8), *row(8, 7, 6, 5, 4, 3, 2, 1), LONG), [63, 54, 45, 36, 27, 18, 9, 0])

    def test_they_are_as_long_as_there_are_things(self):
        self.assertEqual(last(things(4), over(1, 2), LONG), [0, 5, 1, 1])
        self.assertEqual(last(things(8), over(1, 2), LONG), [0, 9, 1, 1, 1, 1, 1, 1])

    def test_one_is_pushed_on_by_a_later_one_that_it_is_open_to(self):
        self.assertEqual(last(things(4), over(1, 2), over(3, 2), over(3, 4), LONG), [1, 6, 0, 5])
        self.assertEqual(last(things(4), *row(1, 2, 3), over(1, 4), LONG), [0, 5, 10, 6])

    def test_each_open_to_its_neighbours_alone(self):
        ends = [end for begin in range(8) for end in (begin, begin + 1)]
        self.assertEqual(last(told(*ends), LONG), [0, 1, 9, 10, 18, 19, 27, 28])

    def test_it_is_not_where_they_were_told(self):
        self.assertEqual(last(told(100, 110, 200, 90000), LONG), [0, 3])

    def test_it_changes_nothing(self):
        self.assertEqual(ask(things(2), over(1, 2), LONG, LONG, UNDO, LONG)[2:], [[0, 3], [0, 3], [0], [0, 0]])


class Refused(unittest.TestCase):
    def test_no_stretches_at_all(self):
        self.assertEqual(last(things(4), over(1, 2), over(3, 4), LONG), [-6])

    def test_stretches_but_none_all_as_long(self):
        self.assertEqual(ask(things(4), *row(1, 2, 3), STRETCHES, LONG)[3:], [[3, 1, 1, 2, 2, 3, 3, 1, 3], [-6]])

    def test_stretches_that_were_told_but_none_all_as_long(self):
        self.assertEqual(last(told(0, 9, 1, 2, 3, 4, 5, 6), LONG), [-6])

    def test_three_and_one_in_a_row_of_seven(self):
        self.assertEqual(last(things(8), *row(1, 2, 3, 4, 5, 6, 7), LONG), [-6])

    def test_it_goes_where_one_more_is_told_and_comes_back_behind_undo(self):
        self.assertEqual(ask(things(4), *row(1, 2, 3), LONG, over(1, 4), LONG, UNDO, LONG, UNDO, LONG)[3:], [
            [-6], [4], [0, 5, 10, 6], [2], [-6], [1], [0, 5, 1, 1],
        ])

    def test_it_stays_behind_turn(self):
        self.assertEqual(last(things(4), *row(1, 2, 3), TURN, LONG), [-6])


class BesideASearch(unittest.TestCase):
    """Every order of few things, beside all tellings."""

    def check(self, n):
        earliest = earliest_by_search(n)
        for order in all_orders(n):
            calls = told_pair_by_pair(n, order)
            got = last(*calls, LONG)
            if order in earliest:
                self.assertEqual(got, list(earliest[order]), calls)
                self.assertEqual(told_by_long(got), order, calls)
            else:
                self.assertEqual(got, [-6], calls)

    def test_one(self):
        self.check(1)

    def test_two(self):
        self.check(2)

    def test_three(self):
        self.check(3)

    def test_four(self):
        self.check(4)


def earlier_by_one(begins):
    """Each way to begin some of the things one earlier, none below 0."""
    for steps in itertools.product((0, 1), repeat=len(begins)):
        moved = [begin - step for begin, step in zip(begins, steps)]
        if any(steps) and min(moved) >= 0:
            yield moved


class ManyThings(unittest.TestCase):
    def check(self, order, got):
        """That it tells the order, and none can begin earlier: if some could at all, some could by one."""
        self.assertEqual(told_by_long(got), order)
        for moved in earlier_by_one(got):
            self.assertNotEqual(told_by_long(moved), order, (got, moved))

    def test_stretches_that_were_all_as_long(self):
        source = random.Random(3)
        for turn in range(60):
            n = source.randint(5, 8)
            length, widest = source.choice(((3, 12), (10, 30), (10, 60), (2, 20)))
            spans = [(begin, begin + length) for begin in (source.randint(0, widest) for thing in range(n))]
            self.check(told_by(spans), last(told(*itertools.chain(*spans)), LONG))

    def test_it_is_refused_just_where_a_four_forbids_it(self):
        source = random.Random(4)
        refused = 0
        for turn in range(300):
            n = source.randint(4, 8)
            order = some_order(source, n)
            got = last(*told_pair_by_pair(n, order), LONG)
            if first_two_and_two(n, order) or first_three_and_one(n, order):
                refused += 1
                self.assertEqual(got, [-6])
            else:
                self.check(order, got)
        self.assertTrue(50 < refused < 250, refused)


if __name__ == "__main__":
    unittest.main()
