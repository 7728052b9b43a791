"""How calls are handed in and answers given back, and what is answered before a begin."""

import contextlib
import io
import unittest

from gluedsquares.surface import answers
from spelling import (
    GREATEST, ask, begin, columns, corner, corners, glue, go, holes, name, near, rename, rows, same, selves, state,
    walk,
)

# All fifteen calls, and each refusal but the one before a begin.
MANY = (
    begin(3) + glue([1, 0, 2], [2, 1, 0]) + go(0, 1) + walk(1, [0, 1]) + corners() + corner(0) + holes() + name()
    + same([0, 2, 1], [1, 0, 2]) + same([1, 2, 0], [0, 1, 2]) + selves() + rename([2, 0, 1]) + rows() + columns()
    + near(0, 2) + state()
    + glue([0, 0], [1]) + glue([0, 1, 2], [0, 1, 2]) + go(3, 0) + begin(9) + same([], []) + same([0, 1, 2], [0, 1, 2])
    + rename([]) + near(0, 3) + state()
)
MANY_ANSWERED = [
    1, 0,
    1, 1,
    1, 2,
    1, 2,
    2, 1, 3,
    4, 3, 0, 2, 1,
    1, 2,
    7, 6, 0, 2, 1, 1, 0, 2,
    1, 1,
    1, 0,
    1, 1,
    1, 0,
    3, 2, 1, 2,
    3, 2, 2, 1,
    1, 2,
    7, 3, 0, 2, 1, 1, 0, 2,
    1, -22,
    1, -33,
    1, -2,
    1, -22,
    1, -22,
    1, -33,
    1, -22,
    1, -2,
    7, 3, 0, 2, 1, 1, 0, 2,
]


class OneList(unittest.TestCase):
    def test_no_call(self):
        self.assertEqual(answers([]), [])

    def test_one_call(self):
        self.assertEqual(answers([0, 6]), [1, 0])
        self.assertEqual(answers([0, 7]), [1, -22])

    def test_several_calls(self):
        self.assertEqual(answers(MANY), MANY_ANSWERED)

    def test_forty_calls(self):
        self.assertEqual(answers([0, 2] + [6] * 39), [1, 0] + [1, 1] * 39)
        self.assertEqual(answers([0, 2] + [14] * 39), [1, 0] + [5, 2, 1, 0, 0, 1] * 39)
        self.assertEqual(answers([14] * 40), [1, -11] * 40)

    def test_forty_calls_that_change_the_surface(self):
        calls = begin(3) + (rename([1, 2, 0]) + glue([1, 0, 2], [2, 1, 0]) + state()) * 13
        self.assertEqual(answers(calls), [1, 0] + [1, 0, 1, 1, 7, 3, 1, 0, 2, 2, 1, 0] * 13)

    def test_each_call_as_it_is_spelled(self):
        spelled = (
            ([0, 1], [0]), ([0, 3], [0]), ([1, 3, 1, 0, 2, 3, 2, 1, 0], [1]), ([2, 0, 0], [1]), ([3, 0, 2, 0, 0], [0]),
            ([4], [1, 3]), ([5, 1], [3, 1, 0, 2]), ([6], [2]), ([7], [6, 0, 2, 1, 1, 0, 2]),
            ([8, 3, 1, 2, 0, 3, 0, 1, 2], [0]), ([9], [1]), ([10, 3, 1, 0, 2], [0]), ([11], [2, 2, 1]),
            ([12], [2, 1, 2]), ([13, 0, 2], [2]), ([14], [3, 1, 0, 2, 0, 2, 1]),
        )
        self.assertEqual(ask(*[call for call, given in spelled]), [given for call, given in spelled])

    def test_the_longest_lists(self):
        long = [GREATEST] * 255
        calls = begin(6) + (glue(long, long) * 39)
        self.assertEqual(answers(calls), [1, 0] + [1, -22] * 39)
        calls = begin(6) + (same(long, long) + rename(long) + state()) * 13
        self.assertEqual(answers(calls), [1, 0] + ([1, -22] * 2 + [13, 6, 1, 2, 3, 4, 5, 0, 0, 1, 2, 3, 4, 5]) * 13)
        self.assertEqual(answers(same(long, long) * 40), [1, -11] * 40)

    def test_empty_lists_among_calls(self):
        self.assertEqual(answers([0, 2, 1, 0, 0, 3, 1, 0, 6]), [1, 0, 1, -22, 1, 1, 1, 1])
        self.assertEqual(answers([0, 2, 8, 0, 0, 10, 0, 9]), [1, 0, 1, -22, 1, -22, 1, 2])
        self.assertEqual(answers([8, 0, 0, 10, 0, 9]), [1, -11] * 3)

    def test_whole_numbers_are_given_back(self):
        given = answers(MANY)
        self.assertIs(type(given), list)
        self.assertEqual({type(number) for number in given}, {int})


class HandedIn(unittest.TestCase):
    def test_it_is_as_it_was(self):
        calls = list(MANY)
        answers(calls)
        self.assertEqual(calls, MANY)

    def test_it_is_not_written_to_for_a_while_either(self):
        class Watched(list):
            def refuse(self, *given):
                raise AssertionError("what is handed in was changed")

            append = extend = insert = pop = remove = clear = sort = reverse = refuse
            __setitem__ = __delitem__ = __iadd__ = __imul__ = refuse

        self.assertEqual(answers(Watched(MANY)), MANY_ANSWERED)

    def test_what_is_given_back_is_a_list_of_its_own(self):
        calls = []
        self.assertIsNot(answers(calls), calls)


class NothingKept(unittest.TestCase):
    def test_twice_the_same_list(self):
        calls = list(MANY)
        self.assertEqual(answers(calls), MANY_ANSWERED)
        self.assertEqual(answers(calls), MANY_ANSWERED)

    def test_a_list_begins_with_nothing(self):
        answers([0, 6])
        self.assertEqual(answers([6]), [1, -11])

    def test_answers_changed_by_the_caller_change_no_later_ones(self):
        answers(MANY).clear()
        self.assertEqual(answers(MANY), MANY_ANSWERED)

    def test_nothing_is_printed(self):
        printed = io.StringIO()
        with contextlib.redirect_stdout(printed), contextlib.redirect_stderr(printed):
            answers(MANY)
        self.assertEqual(printed.getvalue(), "")


class BeforeBegin(unittest.TestCase):
    CALLS = (
        glue([0], [0]), glue([], []), glue([0, 0], [7]), go(0, 0), go(9, 9), walk(0, []), walk(GREATEST, [4] * 31),
        corners(), corner(0), corner(GREATEST), holes(), name(), same([0], [0]), same([], []), same([0, 1], [0, 1]),
        selves(), rename([0]), rename([]), rename([3, 3]), rows(), columns(), near(0, 0), near(GREATEST, 9), state(),
    )

    def test_each_call(self):
        for call in self.CALLS:
            self.assertEqual(ask(call), [[-11]], call)

    def test_each_call_behind_a_refused_begin(self):
        for call in self.CALLS:
            for n in (0, 7, GREATEST):
                self.assertEqual(ask(begin(n), call), [[-22], [-11]], call)

    def test_calls_behind_one_another(self):
        self.assertEqual(ask(*self.CALLS), [[-11]] * len(self.CALLS))

    def test_then_a_begin_is_taken(self):
        self.assertEqual(ask(*self.CALLS, begin(2), state())[-2:], [[0], [2, 1, 0, 0, 1]])

    def test_every_other_call_of_the_interface_is_among_them(self):
        self.assertEqual({call[0] for call in self.CALLS}, set(range(1, 15)))


class BehindBegin(unittest.TestCase):
    def test_no_call_is_told_to_be_before_a_begin(self):
        for call in BeforeBegin.CALLS:
            for size in range(1, 7):
                self.assertNotEqual(ask(begin(size), call)[1], [-11], call)

    def test_a_begin_that_is_refused_later_takes_nothing_away(self):
        for call in BeforeBegin.CALLS:
            self.assertEqual(ask(begin(2), begin(0), call)[2], ask(begin(2), call)[1], call)


if __name__ == "__main__":
    unittest.main()
