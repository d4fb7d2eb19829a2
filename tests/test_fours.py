"""twotwo and threeone: the first four that are two and two, or three and one."""

import unittest

from stretches.order import answers
from tests.lines import PAIRS, THREEONE, TURN, TWOTWO, UNDO, ask, last, over, row, things, told


class TwoAndTwo(unittest.TestCase):
    def test_the_whole_list(self):
        self.assertEqual(answers([0, 4, 1, 1, 2, 1, 3, 4, 7]), [1, 0, 1, 1, 1, 2, 4, 1, 2, 3, 4])

    def test_a_new_object(self):
        self.assertEqual(answers([7]), [1, -3])

    def test_nothing_told(self):
        for n in range(1, 9):
            self.assertEqual(last(things(n), TWOTWO), [-3])

    def test_two_things(self):
        self.assertEqual(last(things(2), over(1, 2), TWOTWO), [-3])

    def test_all_in_one_row(self):
        self.assertEqual(last(things(8), *row(1, 2, 3, 4, 5, 6, 7, 8), TWOTWO), [-3])

    def test_stretches_have_none(self):
        self.assertEqual(last(told(0, 1, 2, 9, 5, 6, 7, 8), TWOTWO), [-3])

    def test_three_and_one_is_none(self):
        self.assertEqual(last(things(4), *row(1, 2, 3), TWOTWO), [-3])

    def test_either_way_across_undoes_it(self):
        for x, y in ((1, 4), (3, 2), (2, 3), (4, 1), (1, 3), (2, 4)):
            self.assertEqual(ask(things(4), over(1, 2), over(3, 4), over(x, y), TWOTWO, UNDO, TWOTWO)[4:], [
                [-3], [2], [1, 2, 3, 4],
            ], (x, y))

    def test_the_first_is_lower_at_the_first_place(self):
        self.assertEqual(last(things(8), over(8, 1), over(5, 3), TWOTWO), [5, 3, 8, 1])
        self.assertEqual(last(things(6), over(4, 5), over(2, 3), over(1, 6), TWOTWO), [1, 6, 2, 3])

    def test_the_first_is_lower_at_the_second_place(self):
        self.assertEqual(last(things(5), over(1, 3), over(1, 2), over(4, 5), TWOTWO), [1, 2, 4, 5])

    def test_the_first_is_lower_at_the_third_place(self):
        self.assertEqual(last(things(6), over(1, 2), over(5, 3), over(4, 6), TWOTWO), [1, 2, 4, 6])

    def test_the_first_is_lower_at_the_fourth_place(self):
        self.assertEqual(last(things(5), over(1, 2), over(3, 5), over(3, 4), TWOTWO), [1, 2, 3, 4])

    def test_pairs_that_follow_count(self):
        self.assertEqual(last(things(5), over(1, 3), over(3, 2), over(4, 5), TWOTWO), [1, 2, 4, 5])

    def test_what_follows_may_undo_it(self):
        # 1 is over before 4 by way of 5.
        self.assertEqual(last(things(5), over(1, 2), over(3, 4), over(1, 5), over(5, 4), TWOTWO), [-3])

    def test_behind_turn(self):
        self.assertEqual(last(things(4), over(1, 2), over(3, 4), TURN, TWOTWO), [2, 1, 4, 3])

    def test_it_changes_nothing(self):
        self.assertEqual(ask(things(4), over(1, 2), over(3, 4), TWOTWO, TWOTWO, PAIRS, UNDO)[3:], [
            [1, 2, 3, 4], [1, 2, 3, 4], [2, 1, 2, 3, 4], [1],
        ])


class ThreeAndOne(unittest.TestCase):
    def test_the_whole_list(self):
        self.assertEqual(answers([0, 4, 1, 1, 2, 1, 2, 3, 8]), [1, 0, 1, 1, 1, 3, 4, 1, 2, 3, 4])

    def test_a_new_object(self):
        self.assertEqual(answers([8]), [1, -3])

    def test_nothing_told(self):
        for n in range(1, 9):
            self.assertEqual(last(things(n), THREEONE), [-3])

    def test_two_things(self):
        self.assertEqual(last(things(2), over(1, 2), THREEONE), [-3])

    def test_three_without_another_one(self):
        self.assertEqual(last(things(3), *row(1, 2, 3), THREEONE), [-3])

    def test_all_in_one_row(self):
        self.assertEqual(last(things(8), *row(1, 2, 3, 4, 5, 6, 7, 8), THREEONE), [-3])

    def test_two_and_two_is_none(self):
        self.assertEqual(last(things(4), over(1, 2), over(3, 4), THREEONE), [-3])

    def test_the_one_is_open_to_all_three(self):
        for x, y in ((1, 4), (2, 4), (3, 4), (4, 1), (4, 2), (4, 3)):
            self.assertEqual(ask(things(4), *row(1, 2, 3), over(x, y), THREEONE, UNDO, THREEONE)[4:], [
                [-3], [2], [1, 2, 3, 4],
            ], (x, y))

    def test_beside_two_and_two(self):
        self.assertEqual(ask(things(5), *row(1, 2, 3), over(4, 5), TWOTWO, THREEONE)[4:], [[1, 2, 4, 5], [1, 2, 3, 4]])

    def test_the_first_is_lower_at_the_first_place(self):
        self.assertEqual(last(things(4), *row(4, 3, 2), THREEONE), [4, 3, 2, 1])
        self.assertEqual(last(things(7), *row(2, 3, 4), *row(1, 6, 5), THREEONE), [1, 6, 5, 2])

    def test_the_first_is_lower_at_the_second_place(self):
        self.assertEqual(last(things(6), over(1, 4), over(4, 3), over(1, 2), over(2, 5), THREEONE), [1, 2, 5, 6])

    def test_the_first_is_lower_at_the_third_place(self):
        self.assertEqual(last(things(6), over(1, 2), over(2, 5), over(2, 3), THREEONE), [1, 2, 3, 4])
        self.assertEqual(last(things(6), *row(1, 2, 3, 4, 5), THREEONE), [1, 2, 3, 6])

    def test_the_first_is_lower_at_the_fourth_place(self):
        self.assertEqual(last(things(8), *row(6, 7, 8), THREEONE), [6, 7, 8, 1])
        self.assertEqual(last(things(8), *row(6, 7, 8), over(1, 6), THREEONE), [1, 6, 7, 2])

    def test_pairs_that_follow_count(self):
        self.assertEqual(last(things(5), *row(1, 3, 2, 4), THREEONE), [1, 2, 4, 5])

    def test_what_follows_may_undo_it(self):
        # 4 is over before 3 by way of 5, and 5 is over before 3.
        self.assertEqual(last(things(5), *row(1, 2, 3), *row(4, 5, 3), over(1, 5), THREEONE), [-3])

    def test_behind_turn(self):
        self.assertEqual(last(things(4), *row(1, 2, 3), TURN, THREEONE), [3, 2, 1, 4])

    def test_it_changes_nothing(self):
        self.assertEqual(ask(things(4), *row(1, 2, 3), THREEONE, THREEONE, PAIRS, UNDO)[3:], [
            [1, 2, 3, 4], [1, 2, 3, 4], [3, 1, 2, 1, 3, 2, 3], [1],
        ])


if __name__ == "__main__":
    unittest.main()
