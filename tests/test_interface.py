"""How the list is handed in and given back, and that nothing is changed, kept or shown."""

import contextlib
import inspect
import io
import sys
import unittest

from stretches import order, relation
from stretches.order import answers
from tests.lines import CROWD, HIGHEST, LONG, PAIRS, STRETCHES, THREEONE, TURN, TWOTWO, UNDO
from tests.lines import ask, at, line, over, split, things, told


class Locked(list):
    """A list that does not let itself be changed, not for a while either."""

    def refuse(self, *numbers, **named):
        raise AssertionError("the list that was handed in is changed")

    append = extend = insert = pop = remove = clear = sort = reverse = refuse
    __setitem__ = __delitem__ = __iadd__ = __imul__ = refuse


THIRTY = line(
    things(8), over(1, 2), over(2, 3), over(4, 5), STRETCHES, at(1),
    UNDO, STRETCHES, over(3, 4), over(4, 1), STRETCHES, at(4),
    at(5), told(1, 2, 3, 4, 2, 3), STRETCHES, at(1), UNDO, UNDO,
    told(), told(1, 2, 3), things(9), things(1), STRETCHES, over(1, 1),
    things(3), over(3, 2), over(2, 1), over(1, 3), at(2), UNDO,
)

THIRTY_ANSWERS = [
    [0], [1], [3], [4], [-6], [-6],
    [2], [3, 1, 1, 2, 2, 3, 3, 1, 3, 1, 3, 1, 3, 1, 3, 1, 3], [6], [-6],
    [4, 1, 1, 2, 2, 3, 3, 4, 4, 1, 4, 1, 4, 1, 4, 1, 4], [5, 4, 5, 6, 7, 8],
    [-3], [1, 1, 2], [2, 1, 1, 2, 2, 1, 2], [2, 1, 3], [0], [-3],
    [-1], [-1], [-1], [0], [1, 1, 1], [-1],
    [0], [1], [3], [-6], [1, 2], [1],
]

ALL_TWELVE = line(
    LONG, things(5), over(1, 2), over(2, 3), THREEONE, TWOTWO,
    LONG, STRETCHES, CROWD, at(2), over(4, 5), TWOTWO,
    STRETCHES, CROWD, TURN, TWOTWO, THREEONE, UNDO,
    PAIRS, over(1, 2), TURN, at(9), told(0, 1, 2, 3, 1, 2), LONG,
    over(1, 3), LONG, CROWD, TURN, UNDO, PAIRS,
)

ALL_TWELVE_ANSWERS = [
    [0], [0], [1], [3], [1, 2, 3, 4], [-3],
    [-6], [3, 1, 1, 2, 2, 3, 3, 1, 3, 1, 3], [3, 1, 4, 5], [3, 2, 4, 5], [4], [1, 2, 4, 5],
    [-6], [2, 1, 4], [4, 2, 1, 3, 1, 3, 2, 5, 4], [2, 1, 5, 4], [3, 2, 1, 4], [2],
    [3, 2, 1, 3, 1, 3, 2], [-6], [3, 1, 2, 1, 3, 2, 3], [-3], [1, 1, 2], [0, 4, 1],
    [2], [0, 4, 4], [2, 2, 3], [2, 2, 1, 3, 1], [1], [1, 2, 1],
]

ALL_TWELVE_AGAIN = line(
    TURN, PAIRS, CROWD, TWOTWO, THREEONE, LONG,
    STRETCHES, at(1), UNDO, told(0, 9, 1, 2, 3, 4, 5, 6), LONG, THREEONE,
    TWOTWO, UNDO, LONG, TURN, CROWD, at(1),
    STRETCHES, over(2, 1), PAIRS, things(9), over(1, 3), LONG,
    THREEONE, things(8), CROWD, over(8, 1), TURN, LONG,
)

ALL_TWELVE_AGAIN_ANSWERS = [
    [0], [0], [1, 1], [-3], [-3], [0],
    [1, 1, 1], [1, 1], [-3], [3, 2, 3, 2, 4, 3, 4], [-6], [2, 3, 4, 1],
    [-3], [2], [1, 0, 5, 5], [2, 3, 2, 4, 2], [3, 1, 3, 4], [3, 1, 3, 4],
    [2, 1, 2, 2, 2, 1, 1, 1, 1], [5], [5, 2, 1, 3, 1, 3, 2, 4, 1, 4, 2], [-1], [-6], [10, 5, 0, 0],
    [-3], [0], [8, 1, 2, 3, 4, 5, 6, 7, 8], [1], [1, 1, 8], [0, 1, 1, 1, 1, 1, 1, 9],
]

LISTS = [
    (THIRTY, THIRTY_ANSWERS), (ALL_TWELVE, ALL_TWELVE_ANSWERS), (ALL_TWELVE_AGAIN, ALL_TWELVE_AGAIN_ANSWERS),
]


class Lists(unittest.TestCase):
    def test_thirty_calls(self):
        for calls, expected in LISTS:
            self.assertEqual(len(expected), 30)
            self.assertEqual(split(answers(list(calls))), expected)

    def test_the_longest_list(self):
        calls = told(*[HIGHEST] * 40) * 30
        self.assertEqual(len(calls), 1260)
        self.assertEqual(answers(calls), [1, -1] * 30)

    def test_a_row_is_taken_whole_though_it_is_refused(self):
        self.assertEqual(ask(told(0), things(2), told(2, 2, 2), UNDO, told(*[3] * 40), STRETCHES), [
            [-1], [0], [-1], [-3], [-1], [1, 1, 1, 1, 1],
        ])

    def test_numbers_that_look_like_calls(self):
        self.assertEqual(ask(things(5), over(1, 4), over(4, 5), at(3), told(3, 3, 4, 5), at(2)), [
            [0], [1], [3], [3, 2, 3, 5], [1, 1, 2], [1, 2],
        ])
        self.assertEqual(ask(things(8), over(8, 7), at(11), told(6, 7, 8, 9, 10, 11), at(9), over(11, 9), things(10)), [
            [0], [1], [-3], [3, 1, 2, 1, 3, 2, 3], [-3], [-1], [-1],
        ])

    def test_whole_numbers_in_a_list(self):
        for calls, expected in LISTS:
            given = answers(list(calls))
            self.assertIs(type(given), list)
            self.assertEqual({type(number) for number in given}, {int})

    def test_thirty_times_the_same_call(self):
        self.assertEqual(answers([6] * 30), [1, 0] * 30)
        self.assertEqual(answers([7] * 30), [1, -3] * 30)
        self.assertEqual(answers([8] * 30), [1, -3] * 30)
        self.assertEqual(answers([9] * 30), [1, 0] * 30)
        self.assertEqual(answers([10] * 30), [2, 1, 1] * 30)
        self.assertEqual(answers([11] * 30), [1, 0] * 30)

    def test_its_one_argument(self):
        self.assertEqual(list(inspect.signature(answers).parameters), ["calls"])


class NothingIsChangedKeptOrShown(unittest.TestCase):
    def test_the_list_is_as_it_was(self):
        for calls, expected in LISTS:
            handed_in = list(calls)
            answers(handed_in)
            self.assertEqual(handed_in, calls)

    def test_the_list_is_not_changed_for_a_while(self):
        for calls, expected in LISTS:
            self.assertEqual(split(answers(Locked(calls))), expected)

    def test_what_is_given_back_is_another_list(self):
        calls = list(THIRTY)
        given = answers(calls)
        given.clear()
        self.assertEqual(calls, THIRTY)
        self.assertEqual(split(answers(calls)), THIRTY_ANSWERS)

    def test_several_lists_each_as_if_for_the_first_time(self):
        lists = LISTS + [
            (line(things(8), over(1, 2), *[STRETCHES] * 28), [[0], [1]] + [[2, 1, 1, 2, 2] + [1, 2] * 6] * 28),
            (line(*[UNDO, STRETCHES, over(1, 2)] * 10), [[-3], [1, 1, 1], [-1]] * 10),
            (told(0, 0, 1, 1), [[1, 1, 2]]),
            (STRETCHES, [[1, 1, 1]]),
        ]
        for turn in range(3):
            for calls, expected in lists + lists[::-1]:
                self.assertEqual(split(answers(list(calls))), expected)

    def test_it_prints_nothing(self):
        out, err = io.StringIO(), io.StringIO()
        with contextlib.redirect_stdout(out), contextlib.redirect_stderr(err):
            for calls, expected in LISTS:
                answers(list(calls))
        self.assertEqual((out.getvalue(), err.getvalue()), ("", ""))

    def test_it_imports_nothing(self):
        ahead = set(sys.modules)
        for calls, expected in LISTS:
            answers(list(calls))
        self.assertEqual(set(sys.modules), ahead)

    def test_the_longest_list_needs_few_calls_within_one_another(self):
        limit = sys.getrecursionlimit()
        depth = len(inspect.stack(0))
        calls = told(*range(40)) * 29 + told(*range(16))
        sys.setrecursionlimit(depth + 30)
        try:
            given = answers(calls)
        finally:
            sys.setrecursionlimit(limit)
        self.assertEqual(split(given)[-1][0], 28)

    def test_the_module_keeps_no_state(self):
        def values():
            return [
                {name: repr(value) for name, value in vars(module).items() if not name.startswith("__")}
                for module in (order, relation)
            ]

        ahead = values()
        for calls, expected in LISTS:
            answers(list(calls))
        self.assertEqual(values(), ahead)


if __name__ == "__main__":
    unittest.main()
