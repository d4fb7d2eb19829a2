"""pairs, crowd and turn, which refuse nothing."""

import unittest

from stretches.order import answers
from tests.lines import CROWD, LONG, PAIRS, STRETCHES, TURN, UNDO, ask, at, last, over, row, things, told


class Pairs(unittest.TestCase):
    def test_the_whole_list(self):
        self.assertEqual(answers([0, 3, 1, 2, 3, 1, 1, 2, 9]), [1, 0, 1, 1, 1, 3, 7, 3, 1, 2, 1, 3, 2, 3])

    def test_a_new_object(self):
        self.assertEqual(answers([9]), [1, 0])

    def test_nothing_told(self):
        for n in range(1, 9):
            self.assertEqual(last(things(n), PAIRS), [0])

    def test_two_things(self):
        self.assertEqual(last(things(2), over(1, 2), PAIRS), [1, 1, 2])
        self.assertEqual(last(things(2), over(2, 1), PAIRS), [1, 2, 1])

    def test_all_in_one_row(self):
        pairs = [thing for x in range(1, 9) for y in range(x + 1, 9) for thing in (x, y)]
        self.assertEqual(last(things(8), *row(1, 2, 3, 4, 5, 6, 7, 8), PAIRS), [28] + pairs)

    def test_the_lower_first_thing_first_then_the_lower_second(self):
        self.assertEqual(last(things(4), over(4, 2), over(3, 1), over(4, 1), over(3, 2), PAIRS), [
            4, 3, 1, 3, 2, 4, 1, 4, 2,
        ])

    def test_in_an_order_that_no_stretches_tell(self):
        self.assertEqual(last(things(4), over(3, 4), over(1, 2), PAIRS), [2, 1, 2, 3, 4])

    def test_behind_told_and_behind_undo(self):
        self.assertEqual(ask(told(0, 1, 0, 0, 1, 2, 2, 2), PAIRS, UNDO, PAIRS, UNDO, PAIRS), [
            [3, 1, 4, 2, 3, 2, 4], [3, 1, 4, 2, 3, 2, 4], [2], [2, 1, 4, 2, 3], [1], [1, 1, 4],
        ])

    def test_it_changes_nothing(self):
        self.assertEqual(ask(things(3), *row(1, 2, 3), PAIRS, PAIRS, UNDO, PAIRS)[3:], [
            [3, 1, 2, 1, 3, 2, 3], [3, 1, 2, 1, 3, 2, 3], [1], [1, 1, 2],
        ])


class Crowd(unittest.TestCase):
    def test_the_whole_list(self):
        self.assertEqual(answers([0, 4, 1, 1, 2, 10]), [1, 0, 1, 1, 4, 3, 1, 3, 4])

    def test_a_new_object(self):
        self.assertEqual(answers([10]), [2, 1, 1])

    def test_nothing_told(self):
        for n in range(1, 9):
            self.assertEqual(last(things(n), CROWD), [n, *range(1, n + 1)])

    def test_two_things(self):
        self.assertEqual(last(things(2), over(1, 2), CROWD), [1, 1])
        self.assertEqual(last(things(2), over(2, 1), CROWD), [1, 1])

    def test_all_in_one_row(self):
        self.assertEqual(last(things(8), *row(1, 2, 3, 4, 5, 6, 7, 8), CROWD), [1, 1])
        self.assertEqual(last(things(8), *row(8, 3, 1, 2, 5, 7, 6, 4), CROWD), [1, 1])

    def test_in_an_order_that_no_stretches_tell(self):
        self.assertEqual(last(things(4), over(1, 2), over(3, 4), CROWD), [2, 1, 3])

    def test_more_things_come_ahead_of_lower_ones(self):
        self.assertEqual(last(things(4), over(1, 2), over(1, 3), over(1, 4), CROWD), [3, 2, 3, 4])
        self.assertEqual(last(things(5), over(1, 3), over(4, 1), over(1, 5), CROWD), [3, 2, 3, 5])
        self.assertEqual(last(things(6), over(1, 4), over(1, 5), over(6, 1), CROWD), [4, 2, 3, 4, 5])

    def test_of_as_many_the_lower_at_the_first_place(self):
        self.assertEqual(last(things(4), over(1, 2), CROWD), [3, 1, 3, 4])
        self.assertEqual(last(things(4), over(2, 1), CROWD), [3, 1, 3, 4])

    def test_of_as_many_the_lower_at_a_later_place(self):
        self.assertEqual(last(things(4), over(2, 3), CROWD), [3, 1, 2, 4])
        self.assertEqual(last(things(4), over(4, 3), CROWD), [3, 1, 2, 3])

    def test_the_first_row_is_not_the_one_with_the_lower_sum(self):
        # 1, 5 and 6 are over before 2, 3 and 4.
        apart = [over(x, y) for x in (1, 5, 6) for y in (2, 3, 4)]
        self.assertEqual(last(things(6), *apart, CROWD), [3, 1, 5, 6])

    def test_what_follows_counts(self):
        self.assertEqual(last(things(4), *row(1, 2, 3), CROWD), [2, 1, 4])
        self.assertEqual(last(things(3), *row(1, 3, 2), CROWD), [1, 1])

    def test_any_two_are_open_though_more_are_open_to_one(self):
        # 4 is open to 1, 2 and 3, but these lie in a row.
        self.assertEqual(last(things(4), *row(3, 2, 1), CROWD), [2, 1, 4])

    def test_behind_undo_and_turn(self):
        self.assertEqual(ask(things(3), over(1, 3), over(3, 2), CROWD, TURN, CROWD, UNDO, CROWD)[3:], [
            [1, 1], [3, 2, 1, 2, 3, 3, 1], [1, 1], [1], [2, 1, 2],
        ])

    def test_it_changes_nothing(self):
        self.assertEqual(ask(things(3), over(1, 2), CROWD, CROWD, PAIRS, UNDO)[2:], [
            [2, 1, 3], [2, 1, 3], [1, 1, 2], [0],
        ])


class Turn(unittest.TestCase):
    def test_the_whole_list(self):
        self.assertEqual(answers([0, 3, 1, 1, 2, 1, 2, 3, 11]), [1, 0, 1, 1, 1, 3, 7, 3, 2, 1, 3, 1, 3, 2])

    def test_a_new_object(self):
        self.assertEqual(answers([11]), [1, 0])

    def test_nothing_told(self):
        for n in range(1, 9):
            self.assertEqual(ask(things(n), TURN, UNDO, CROWD)[1:], [[0], [-3], [n, *range(1, n + 1)]])

    def test_two_things(self):
        self.assertEqual(ask(things(2), over(1, 2), TURN, PAIRS)[2:], [[1, 2, 1], [1, 2, 1]])

    def test_all_in_one_row(self):
        pairs = [thing for x in range(1, 9) for y in range(1, x) for thing in (x, y)]
        self.assertEqual(last(things(8), *row(1, 2, 3, 4, 5, 6, 7, 8), TURN), [28] + pairs)

    def test_behind_told(self):
        self.assertEqual(ask(told(1, 2, 3, 4, 2, 9), TURN, PAIRS, STRETCHES), [
            [1, 1, 2], [1, 2, 1], [1, 2, 1], [2, 2, 2, 1, 1, 1, 2],
        ])

    def test_behind_undo(self):
        self.assertEqual(ask(things(3), *row(1, 2, 3), UNDO, TURN, PAIRS)[3:], [[1], [1, 2, 1], [1, 2, 1]])

    def test_twice_gives_back_what_was(self):
        probes = [PAIRS, STRETCHES, LONG, CROWD, at(2), UNDO, PAIRS, UNDO, PAIRS, UNDO, PAIRS]
        for ahead in ([things(5), *row(4, 2, 5)], [told(0, 1, 0, 0, 1, 2, 2, 2)], [things(4), over(1, 2), over(4, 3)]):
            self.assertEqual(
                ask(*ahead, TURN, TURN, *probes)[len(ahead) + 2:],
                ask(*ahead, *probes)[len(ahead):],
            )

    def test_undo_behind_it_takes_the_last_one_told_by_over(self):
        self.assertEqual(ask(things(4), over(1, 4), over(2, 3), TURN, UNDO, PAIRS, UNDO, PAIRS, UNDO)[3:], [
            [2, 3, 2, 4, 1], [1], [1, 4, 1], [0], [0], [-3],
        ])
        self.assertEqual(ask(things(4), over(2, 3), over(1, 4), TURN, UNDO, PAIRS)[3:], [
            [2, 3, 2, 4, 1], [1], [1, 3, 2],
        ])

    def test_undo_behind_it_takes_the_last_one_told_by_told(self):
        # Told are (1, 4), (2, 3), (2, 4): turned they don't lie in order any more.
        self.assertEqual(ask(told(0, 1, 0, 0, 1, 2, 2, 2), TURN, UNDO, PAIRS, UNDO, PAIRS, UNDO, UNDO), [
            [3, 1, 4, 2, 3, 2, 4], [3, 3, 2, 4, 1, 4, 2], [2], [2, 3, 2, 4, 1], [1], [1, 4, 1], [0], [-3],
        ])

    def test_only_what_is_told_is_turned_and_counted_by_undo(self):
        self.assertEqual(ask(things(3), *row(1, 2, 3), TURN, UNDO, PAIRS, UNDO, PAIRS)[3:], [
            [3, 2, 1, 3, 1, 3, 2], [1], [1, 2, 1], [0], [0],
        ])

    def test_over_behind_it(self):
        self.assertEqual(ask(things(3), over(1, 2), TURN, over(1, 2), over(2, 1), over(3, 2), PAIRS, UNDO, PAIRS)[2:], [
            [1, 2, 1], [-6], [-4], [3], [3, 2, 1, 3, 1, 3, 2], [1], [1, 2, 1],
        ])

    def test_over_between_two_turns(self):
        self.assertEqual(ask(things(3), over(1, 2), TURN, over(3, 2), TURN, UNDO, PAIRS)[2:], [
            [1, 2, 1], [3], [3, 1, 2, 1, 3, 2, 3], [1], [1, 1, 2],
        ])

    def test_the_things_stay(self):
        self.assertEqual(ask(things(3), over(1, 2), TURN, over(3, 4), STRETCHES)[3:], [[-1], [2, 2, 2, 1, 1, 1, 2]])

    def test_things_and_told_behind_it_begin_anew(self):
        self.assertEqual(ask(things(3), over(1, 2), TURN, things(3), over(1, 2), PAIRS)[4:], [[1], [1, 1, 2]])
        self.assertEqual(ask(things(3), over(1, 2), TURN, told(1, 2, 3, 4), UNDO, UNDO)[3:], [[1, 1, 2], [0], [-3]])


if __name__ == "__main__":
    unittest.main()
