"""Points 1 and 2: each refusal, that the one told first is answered, and that all is as it was."""

import unittest

from tests.lines import CROWD, HIGHEST, LONG, PAIRS, STRETCHES, THREEONE, TURN, TWOTWO, UNDO
from tests.lines import ask, at, last, over, row, things, told

TWO_AND_TWO = [things(4), over(1, 2), over(3, 4)]
THREE_AND_ONE = [things(4), *row(1, 2, 3)]


class Point1(unittest.TestCase):
    def test_things_not_1_to_8(self):
        for n in (0, 9, 10, 100001, HIGHEST):
            self.assertEqual(ask(things(n)), [[-1]])

    def test_over_no_such_thing(self):
        for x, y in ((0, 1), (1, 0), (4, 1), (1, 4), (HIGHEST, 1), (1, HIGHEST), (0, 4), (HIGHEST, 0)):
            self.assertEqual(last(things(3), over(x, y)), [-1], (x, y))

    def test_over_the_same(self):
        for x in (0, 1, 2, 3, 4, 9, HIGHEST):
            self.assertEqual(last(things(3), over(1, 2), over(x, x)), [-1], x)

    def test_over_the_other_way_round(self):
        self.assertEqual(last(things(3), over(1, 2), over(2, 1)), [-6])

    def test_over_the_other_way_round_as_it_follows(self):
        self.assertEqual(ask(things(4), over(1, 2), over(2, 3), over(3, 4), over(4, 1), over(3, 1))[4:], [[-6], [-6]])

    def test_over_already(self):
        self.assertEqual(last(things(3), over(1, 2), over(1, 2)), [-4])

    def test_over_already_as_it_follows(self):
        self.assertEqual(ask(things(4), over(1, 2), over(2, 3), over(3, 4), over(1, 4), over(1, 3))[4:], [[-4], [-4]])

    def test_undo_with_nothing_told(self):
        self.assertEqual(ask(things(8), UNDO, UNDO), [[0], [-3], [-3]])
        self.assertEqual(ask(told(1, 1, 1, 1), UNDO), [[0], [-3]])

    def test_told_with_no_number(self):
        self.assertEqual(ask(told()), [[-1]])

    def test_told_with_a_number_left_over(self):
        for count in range(1, 40, 2):
            self.assertEqual(ask(told(*[5] * count)), [[-1]], count)

    def test_told_with_more_than_eight(self):
        self.assertEqual(ask(told(*[5] * 16)), [[0]])
        for count in range(18, 41, 2):
            self.assertEqual(ask(told(*[5] * count)), [[-1]], count)

    def test_told_one_ends_before_it_begins(self):
        for ends in ((1, 0), (1, 2, 6, 5), (6, 5, 1, 2), (0, 0, 1, 1, 100000, 0), (100000, 99999)):
            self.assertEqual(ask(told(*ends)), [[-1]], ends)

    def test_told_the_last_of_eight_ends_before_it_begins(self):
        self.assertEqual(ask(told(*[5] * 15, 4)), [[-1]])

    def test_told_above_100000(self):
        for ends in ((0, 100001), (100001, 100001), (100001, 100000), (0, 1, 0, 100001), (0, 100001, 0, 1), (0, HIGHEST)):
            self.assertEqual(ask(told(*ends)), [[-1]], ends)
        self.assertEqual(ask(told(0, 100000)), [[0]])
        self.assertEqual(ask(told(100000, 100000)), [[0]])


class Point2(unittest.TestCase):
    def test_stretches_none_tell_it(self):
        self.assertEqual(last(*TWO_AND_TWO, STRETCHES), [-6])

    def test_at_none_tell_it(self):
        for t in (1, 2):
            self.assertEqual(last(*TWO_AND_TWO, at(t)), [-6])

    def test_at_no_stretches_is_told_first(self):
        for t in (0, 5, 9, HIGHEST):
            self.assertEqual(last(*TWO_AND_TWO, at(t)), [-6], t)

    def test_at_no_such_moment(self):
        for t in (0, 3, 8, HIGHEST):
            self.assertEqual(last(things(3), over(1, 2), at(t)), [-3], t)

    def test_two_and_two_among_more(self):
        self.assertEqual(last(things(8), over(8, 1), over(5, 3), STRETCHES), [-6])
        self.assertEqual(last(things(6), over(1, 2), over(2, 3), over(4, 5), over(5, 6), STRETCHES), [-6])

    def test_long_none_all_as_long_tell_it(self):
        self.assertEqual(last(*TWO_AND_TWO, LONG), [-6])
        self.assertEqual(last(*THREE_AND_ONE, LONG), [-6])

    def test_twotwo_no_such_four(self):
        self.assertEqual(last(*THREE_AND_ONE, TWOTWO), [-3])
        self.assertEqual(last(told(0, 9, 1, 2, 3, 4, 5, 6), TWOTWO), [-3])

    def test_threeone_no_such_four(self):
        self.assertEqual(last(*TWO_AND_TWO, THREEONE), [-3])
        self.assertEqual(last(told(0, 1, 1, 2, 2, 3, 3, 4, 4, 5), THREEONE), [-3])

    def test_the_others_refuse_nothing(self):
        for ahead in ([], [things(8)], TWO_AND_TWO, THREE_AND_ONE):
            for answer in ask(*ahead, PAIRS, CROWD, TURN)[-3:]:
                self.assertGreaterEqual(answer[0], 0)

    def test_two_and_two_goes_where_one_more_is_told(self):
        self.assertEqual(ask(*TWO_AND_TWO, STRETCHES, over(1, 4), STRETCHES, at(2), UNDO, STRETCHES)[3:], [
            [-6], [3], [3, 1, 1, 2, 3, 1, 2, 3, 3], [2, 2, 3], [2], [-6],
        ])

    def test_none_tell_it_any_more_behind_undo_of_told(self):
        # Told are (1, 4), (2, 3), (2, 4): without the last there are two and two.
        self.assertEqual(ask(told(0, 1, 0, 0, 1, 2, 2, 2), STRETCHES, UNDO, STRETCHES, at(1), UNDO, STRETCHES), [
            [3, 1, 4, 2, 3, 2, 4],
            [3, 1, 2, 1, 1, 2, 3, 3, 3],
            [2],
            [-6],
            [-6],
            [1],
            [2, 1, 1, 1, 2, 1, 2, 2, 2],
        ])


class AllIsAsItWas(unittest.TestCase):
    """Behind each refusal the order answers just what it answered ahead of it."""

    def check(self, ahead, refused, refusal):
        probes = [
            STRETCHES, at(1), at(2), LONG, TWOTWO, THREEONE, PAIRS, CROWD, TURN, TURN, UNDO, PAIRS, STRETCHES, TURN,
            UNDO, PAIRS, UNDO,
        ]
        got = ask(*ahead, refused, *probes)
        self.assertEqual(got[len(ahead)], [refusal], refused)
        self.assertEqual(got[len(ahead) + 1:], ask(*ahead, *probes)[len(ahead):], refused)

    def test_behind_refusals_of_point_1(self):
        ahead = [things(4), over(1, 2), over(2, 3)]
        for n in (0, 9, HIGHEST):
            self.check(ahead, things(n), -1)
        for x, y, refusal in ((0, 1, -1), (1, 5, -1), (4, 4, -1), (3, 1, -6), (2, 1, -6), (1, 2, -4), (1, 3, -4)):
            self.check(ahead, over(x, y), refusal)
        for ends in ((), (1,), (1, 2, 3), (5,) * 18, (1, 2, 4, 3), (1, 2, 3, 100001)):
            self.check(ahead, told(*ends), -1)

    def test_behind_refused_undo(self):
        for ahead in ([], [things(5)], [told(1, 1, 1, 1)]):
            self.check(ahead, UNDO, -3)

    def test_behind_refusals_of_point_2(self):
        self.check(TWO_AND_TWO, STRETCHES, -6)
        self.check(TWO_AND_TWO, at(1), -6)
        self.check(TWO_AND_TWO, at(0), -6)
        self.check([told(1, 2, 3, 4)], at(0), -3)
        self.check([told(1, 2, 3, 4)], at(3), -3)
        self.check(TWO_AND_TWO, LONG, -6)
        self.check(THREE_AND_ONE, LONG, -6)
        self.check(THREE_AND_ONE, TWOTWO, -3)
        self.check(TWO_AND_TWO, THREEONE, -3)
        for ahead in ([], [things(8)], [told(1, 2, 3, 4, 5, 6)]):
            self.check(ahead, TWOTWO, -3)
            self.check(ahead, THREEONE, -3)


if __name__ == "__main__":
    unittest.main()
