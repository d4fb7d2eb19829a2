"""How the list is handed in and given back, and that nothing is changed, kept or shown."""

import contextlib
import inspect
import io
import sys
import unittest

from stretches import order
from stretches.order import answers
from tests.lines import HIGHEST, STRETCHES, UNDO, ask, at, line, over, split, things, told


class Locked(list):
    """A list that does not let itself be changed, not for a while either."""

    def refuse(self, *numbers, **named):
        raise AssertionError("the list that was handed in is changed")

    append = extend = insert = pop = remove = clear = sort = reverse = refuse
    __setitem__ = __delitem__ = __iadd__ = __imul__ = refuse


THIRTY = line(
    things(8), over(1, 2), over(2, 3), over(4, 5), STRETCHES, at(1),
    UNDO, STRETCHES, over(3, 4), over(4, 1), STRETCHES, at(4),
    at(5), told(1, 2, 3, 4, 2, 3), STRETCHES, at(1), UNDO, UNDO,
    told(), told(1, 2, 3), things(9), things(1), STRETCHES, over(1, 1),
    things(3), over(3, 2), over(2, 1), over(1, 3), at(2), UNDO,
)

THIRTY_ANSWERS = [
    [0], [1], [3], [4], [-6], [-6],
    [2], [3, 1, 1, 2, 2, 3, 3, 1, 3, 1, 3, 1, 3, 1, 3, 1, 3], [6], [-6],
    [4, 1, 1, 2, 2, 3, 3, 4, 4, 1, 4, 1, 4, 1, 4, 1, 4], [5, 4, 5, 6, 7, 8],
    [-3], [1, 1, 2], [2, 1, 1, 2, 2, 1, 2], [2, 1, 3], [0], [-3],
    [-1], [-1], [-1], [0], [1, 1, 1], [-1],
    [0], [1], [3], [-6], [1, 2], [1],
]


class Lists(unittest.TestCase):
    def test_thirty_calls(self):
        self.assertEqual(len(THIRTY_ANSWERS), 30)
        self.assertEqual(split(answers(list(THIRTY))), THIRTY_ANSWERS)

    def test_the_longest_list(self):
        calls = told(*[HIGHEST] * 40) * 30
        self.assertEqual(len(calls), 1260)
        self.assertEqual(answers(calls), [1, -1] * 30)

    def test_a_row_is_taken_whole_though_it_is_refused(self):
        self.assertEqual(ask(told(0), things(2), told(2, 2, 2), UNDO, told(*[3] * 40), STRETCHES), [
            [-1], [0], [-1], [-3], [-1], [1, 1, 1, 1, 1],
        ])

    def test_numbers_that_look_like_calls(self):
        self.assertEqual(ask(things(5), over(1, 4), over(4, 5), at(3), told(3, 3, 4, 5), at(2)), [
            [0], [1], [3], [3, 2, 3, 5], [1, 1, 2], [1, 2],
        ])

    def test_whole_numbers_in_a_list(self):
        given = answers(THIRTY)
        self.assertIs(type(given), list)
        self.assertEqual({type(number) for number in given}, {int})

    def test_its_one_argument(self):
        self.assertEqual(list(inspect.signature(answers).parameters), ["calls"])


class NothingIsChangedKeptOrShown(unittest.TestCase):
    def test_the_list_is_as_it_was(self):
        calls = list(THIRTY)
        answers(calls)
        self.assertEqual(calls, THIRTY)

    def test_the_list_is_not_changed_for_a_while(self):
        self.assertEqual(split(answers(Locked(THIRTY))), THIRTY_ANSWERS)

    def test_what_is_given_back_is_another_list(self):
        calls = list(THIRTY)
        given = answers(calls)
        given.clear()
        self.assertEqual(calls, THIRTY)
        self.assertEqual(split(answers(calls)), THIRTY_ANSWERS)

    def test_several_lists_each_as_if_for_the_first_time(self):
        lists = [
            (THIRTY, THIRTY_ANSWERS),
            (line(things(8), over(1, 2), *[STRETCHES] * 28), [[0], [1]] + [[2, 1, 1, 2, 2] + [1, 2] * 6] * 28),
            (line(*[UNDO, STRETCHES, over(1, 2)] * 10), [[-3], [1, 1, 1], [-1]] * 10),
            (told(0, 0, 1, 1), [[1, 1, 2]]),
            (STRETCHES, [[1, 1, 1]]),
        ]
        for turn in range(3):
            for calls, expected in lists + lists[::-1]:
                self.assertEqual(split(answers(list(calls))), expected)

    def test_it_prints_nothing(self):
        out, err = io.StringIO(), io.StringIO()
        with contextlib.redirect_stdout(out), contextlib.redirect_stderr(err):
            answers(list(THIRTY))
        self.assertEqual((out.getvalue(), err.getvalue()), ("", ""))

    def test_it_imports_nothing(self):
        ahead = set(sys.modules)
        answers(list(THIRTY))
        self.assertEqual(set(sys.modules), ahead)

    def test_the_longest_list_needs_few_calls_within_one_another(self):
        limit = sys.getrecursionlimit()
        depth = len(inspect.stack(0))
        calls = told(*range(40)) * 29 + told(*range(16))
        sys.setrecursionlimit(depth + 30)
        try:
            given = answers(calls)
        finally:
            sys.setrecursionlimit(limit)
        self.assertEqual(split(given)[-1][0], 28)

    def test_the_module_keeps_no_state(self):
        plain = {name: repr(value) for name, value in vars(order).items() if not name.startswith("__")}
        answers(list(THIRTY))
        self.assertEqual({name: repr(vars(order)[name]) for name in plain}, plain)


if __name__ == "__main__":
    unittest.main()
