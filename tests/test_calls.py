"""Each call with ordinary inputs, and the edges at which it still answers."""

import unittest

from stretches.order import answers
from tests.lines import HIGHEST, STRETCHES, UNDO, ask, at, last, over, things, told


class WholeLists(unittest.TestCase):
    """The whole list that is given back, number by number."""

    def test_things(self):
        self.assertEqual(answers([0, 3]), [1, 0])

    def test_over(self):
        self.assertEqual(answers([0, 3, 1, 1, 2, 1, 2, 3]), [1, 0, 1, 1, 1, 3])

    def test_undo(self):
        self.assertEqual(answers([0, 3, 1, 1, 2, 1, 2, 3, 2]), [1, 0, 1, 1, 1, 3, 1, 1])

    def test_told(self):
        self.assertEqual(answers([3, 6, 0, 1, 2, 5, 4, 9]), [5, 2, 1, 2, 1, 3])

    def test_stretches(self):
        self.assertEqual(answers([0, 3, 1, 1, 2, 4]), [1, 0, 1, 1, 7, 2, 1, 1, 2, 2, 1, 2])

    def test_at(self):
        self.assertEqual(answers([0, 3, 1, 1, 2, 5, 1, 5, 2]), [1, 0, 1, 1, 3, 2, 1, 3, 3, 2, 2, 3])

    def test_a_refusal_lies_as_one_number(self):
        self.assertEqual(answers([0, 9, 4]), [1, -1, 3, 1, 1, 1])

    def test_all_six_in_one_list(self):
        calls = [0, 4, 1, 1, 2, 1, 2, 3, 4, 5, 2, 2, 3, 4, 0, 1, 2, 3, 4]
        self.assertEqual(answers(calls), [
            1, 0,
            1, 1,
            1, 3,
            9, 3, 1, 1, 2, 2, 3, 3, 1, 3,
            3, 2, 2, 4,
            1, 1,
            3, 1, 1, 2,
            5, 2, 1, 1, 2, 2,
        ])


class New(unittest.TestCase):
    def test_there_is_one_thing(self):
        self.assertEqual(ask(STRETCHES), [[1, 1, 1]])
        self.assertEqual(ask(at(1)), [[1, 1]])
        self.assertEqual(ask(at(2)), [[-3]])

    def test_nothing_is_told(self):
        self.assertEqual(ask(UNDO), [[-3]])

    def test_there_is_no_second_thing(self):
        self.assertEqual(ask(over(1, 2), over(2, 1), over(1, 1)), [[-1], [-1], [-1]])


class Things(unittest.TestCase):
    def test_each_number_that_is_taken(self):
        for n in range(1, 9):
            self.assertEqual(ask(things(n), STRETCHES), [[0], [1] + [1, 1] * n])

    def test_the_last_thing_is_n(self):
        self.assertEqual(ask(things(8), over(8, 1), over(1, 9)), [[0], [1], [-1]])
        self.assertEqual(ask(things(1), over(1, 2)), [[0], [-1]])

    def test_nothing_is_told_any_more(self):
        self.assertEqual(
            ask(things(3), over(1, 2), things(3), UNDO, STRETCHES, over(2, 1)),
            [[0], [1], [0], [-3], [1, 1, 1, 1, 1, 1, 1], [1]],
        )

    def test_fewer_things_than_before(self):
        self.assertEqual(ask(things(8), over(7, 8), things(2), over(1, 3), STRETCHES)[3:], [[-1], [1, 1, 1, 1, 1]])


class Over(unittest.TestCase):
    def test_pairs_that_follow_are_counted(self):
        self.assertEqual(
            ask(things(6), over(1, 2), over(3, 4), over(2, 3), over(6, 5), over(4, 6)),
            [[0], [1], [2], [6], [7], [15]],
        )

    def test_a_row_of_eight_told_from_behind(self):
        calls = [over(x, x + 1) for x in range(7, 0, -1)]
        self.assertEqual(ask(things(8), *calls), [[0], [1], [3], [6], [10], [15], [21], [28]])

    def test_a_row_of_eight_told_in_a_mixed_order(self):
        pairs = [(4, 5), (1, 2), (7, 8), (3, 4), (2, 3), (6, 7), (5, 6)]
        self.assertEqual(last(things(8), *[over(x, y) for x, y in pairs]), [28])

    def test_a_higher_thing_may_be_over_before_a_lower(self):
        self.assertEqual(ask(things(3), over(3, 1), STRETCHES)[1:], [[1], [2, 2, 2, 1, 2, 1, 1]])

    def test_without_a_common_thing_nothing_follows(self):
        self.assertEqual(ask(things(4), over(1, 2), over(3, 2), over(3, 4))[1:], [[1], [2], [3]])


class Undo(unittest.TestCase):
    def test_behind_over_down_to_where_nothing_is_told(self):
        self.assertEqual(
            ask(things(4), over(1, 2), over(2, 3), over(3, 4), UNDO, UNDO, UNDO, UNDO, UNDO),
            [[0], [1], [3], [6], [2], [1], [0], [-3], [-3]],
        )

    def test_it_counts_what_is_told_not_what_follows(self):
        self.assertEqual(ask(things(4), over(1, 2), over(2, 3), over(3, 4), UNDO)[3:], [[6], [2]])

    def test_what_followed_is_gone(self):
        self.assertEqual(
            ask(things(3), over(1, 2), over(2, 3), UNDO, STRETCHES, over(3, 1))[3:],
            [[1], [2, 1, 1, 2, 2, 1, 2], [3]],
        )

    def test_what_still_follows_stays(self):
        self.assertEqual(
            ask(things(3), over(1, 3), over(1, 2), over(2, 3), UNDO, over(1, 3), UNDO, over(1, 3), over(1, 2)),
            [[0], [1], [2], [3], [2], [-4], [1], [-4], [2]],
        )

    def test_behind_told_the_last_pair_in_order_goes(self):
        self.assertEqual(
            ask(told(1, 2, 3, 4, 5, 6), UNDO, STRETCHES, UNDO, STRETCHES, UNDO, UNDO),
            [[3, 1, 2, 1, 3, 2, 3], [2], [2, 1, 1, 2, 2, 2, 2], [1], [2, 1, 1, 2, 2, 1, 2], [0], [-3]],
        )

    def test_behind_told_a_pair_that_still_follows_stays(self):
        # Told are (1, 2), (3, 1), (3, 2): the last follows from the two before it.
        self.assertEqual(
            ask(told(3, 4, 5, 6, 1, 2), UNDO, over(3, 2), STRETCHES, UNDO, over(3, 2), over(1, 3)),
            [[3, 1, 2, 3, 1, 3, 2], [2], [-4], [3, 2, 2, 3, 3, 1, 1], [1], [2], [3]],
        )

    def test_behind_told_the_things_stay(self):
        self.assertEqual(ask(things(2), told(1, 2, 3, 4, 5, 6), UNDO, over(3, 4), over(2, 3)), [
            [0], [3, 1, 2, 1, 3, 2, 3], [2], [-1], [3],
        ])

    def test_behind_refusals(self):
        self.assertEqual(
            ask(things(3), over(1, 2), over(2, 3), over(3, 1), over(1, 3), over(2, 2), things(0), told(1), UNDO, UNDO, UNDO),
            [[0], [1], [3], [-6], [-4], [-1], [-1], [-1], [1], [0], [-3]],
        )

    def test_behind_told_and_over(self):
        self.assertEqual(
            ask(told(0, 0, 1, 1, 1, 2), over(2, 3), UNDO, UNDO, UNDO, UNDO),
            [[2, 1, 2, 1, 3], [3], [2], [1], [0], [-3]],
        )


class Told(unittest.TestCase):
    def test_pairs_lie_by_the_first_then_by_the_second(self):
        self.assertEqual(ask(told(7, 8, 5, 6, 3, 4, 1, 2)), [[6, 2, 1, 3, 1, 3, 2, 4, 1, 4, 2, 4, 3]])

    def test_touching_is_not_apart(self):
        self.assertEqual(ask(told(1, 3, 3, 5)), [[0]])
        self.assertEqual(ask(told(1, 3, 4, 5)), [[1, 1, 2]])

    def test_a_stretch_may_end_where_it_begins(self):
        self.assertEqual(ask(told(5, 5)), [[0]])
        self.assertEqual(ask(told(5, 5, 5, 5, 6, 6)), [[2, 1, 3, 2, 3]])

    def test_all_zero(self):
        self.assertEqual(ask(told(0, 0, 0, 0), STRETCHES), [[0], [1, 1, 1, 1, 1]])

    def test_up_to_100000(self):
        self.assertEqual(ask(told(0, 99999, 100000, 100000)), [[1, 1, 2]])

    def test_eight_stretches(self):
        ends = [end for x in range(8) for end in (x, x)]
        pairs = [thing for x in range(1, 9) for y in range(x + 1, 9) for thing in (x, y)]
        self.assertEqual(ask(told(*ends)), [[28] + pairs])

    def test_there_are_as_many_things_as_stretches(self):
        self.assertEqual(ask(told(1, 2, 3, 4, 5, 6), over(3, 4), STRETCHES)[1:], [[-1], [3, 1, 1, 2, 2, 3, 3]])
        self.assertEqual(ask(things(8), told(1, 2), over(1, 2), STRETCHES)[1:], [[0], [-1], [1, 1, 1]])

    def test_what_was_told_before_is_gone(self):
        self.assertEqual(ask(things(3), over(3, 1), told(1, 2, 3, 4), UNDO, UNDO)[2:], [[1, 1, 2], [0], [-3]])

    def test_told_pairs_are_as_told_by_over(self):
        self.assertEqual(ask(told(1, 2, 3, 4, 1, 9), over(1, 2), over(2, 1), over(2, 3)), [[1, 1, 2], [-4], [-6], [3]])


class Stretches(unittest.TestCase):
    def test_a_row(self):
        self.assertEqual(last(things(4), over(1, 2), over(2, 3), over(3, 4), STRETCHES), [4, 1, 1, 2, 2, 3, 3, 4, 4])

    def test_a_row_beside_one_that_lasts_through(self):
        self.assertEqual(last(things(4), over(1, 2), over(2, 3), STRETCHES), [3, 1, 1, 2, 2, 3, 3, 1, 3])

    def test_as_few_moments_as_can_be_not_those_that_were_told(self):
        self.assertEqual(
            last(told(10, 20, 30, 70, 25, 40, 50, 90, 95, 99), STRETCHES),
            [4, 1, 1, 2, 3, 2, 2, 3, 3, 4, 4],
        )

    def test_a_begin_that_is_not_a_count_of_things(self):
        # Three are over before the fourth, but there are two sets only.
        self.assertEqual(last(things(4), over(1, 4), over(2, 4), over(3, 4), STRETCHES), [2, 1, 1, 1, 1, 1, 1, 2, 2])

    def test_three_pairs_in_a_zigzag(self):
        self.assertEqual(last(things(4), over(1, 2), over(3, 2), over(3, 4), STRETCHES), [3, 1, 2, 3, 3, 1, 1, 2, 3])

    def test_it_changes_nothing(self):
        self.assertEqual(ask(things(2), over(1, 2), STRETCHES, STRETCHES, UNDO)[2:], [
            [2, 1, 1, 2, 2], [2, 1, 1, 2, 2], [0],
        ])


class At(unittest.TestCase):
    def test_from_before_the_first_to_behind_the_last(self):
        row = [things(4), over(1, 2), over(2, 3)]
        self.assertEqual(ask(*row, at(0), at(1), at(2), at(3), at(4), at(HIGHEST))[3:], [
            [-3], [2, 1, 4], [2, 2, 4], [2, 3, 4], [-3], [-3],
        ])

    def test_all_at_one_moment(self):
        self.assertEqual(ask(things(8), at(1), at(2))[1:], [[8, 1, 2, 3, 4, 5, 6, 7, 8], [-3]])

    def test_one_that_has_ended_and_one_that_has_not_begun(self):
        self.assertEqual(ask(things(3), over(3, 2), over(2, 1), at(1), at(2), at(3))[3:], [[1, 3], [1, 2], [1, 1]])

    def test_it_changes_nothing(self):
        self.assertEqual(ask(things(2), over(1, 2), at(2), at(2), UNDO, at(1))[2:], [[1, 2], [1, 2], [0], [2, 1, 2]])


if __name__ == "__main__":
    unittest.main()
