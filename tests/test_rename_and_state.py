"""Promise 2: rename and state."""

import unittest

from spelling import (
    GREATEST, ask, ask_last, begin, columns, corner, corners, eastern_and_northern, glue, go, holes, name, near,
    rename, rows, same, selves, state, walk,
)

EASTERN, NORTHERN = [1, 2, 0, 4, 3], [3, 1, 4, 2, 0]
FIVE = (begin(5), glue(EASTERN, NORTHERN))
NEW_ORDER = [3, 0, 4, 1, 2]
NEW_EASTERN, NEW_NORTHERN = [2, 3, 0, 4, 1], [4, 0, 1, 3, 2]
WRONG_FOR_FIVE = (
    [], [0], [0, 1, 2, 3], [0, 1, 2, 3, 4, 0], [0, 1, 2, 3, 4, 5], [0, 1, 2, 3, 3], [1, 1, 1, 1, 1], [1, 2, 3, 4, 5],
    [0, 1, 2, 3, GREATEST], [0, 1, 2, 3, 4] + [0] * 250, [GREATEST] * 255,
)


class Refused(unittest.TestCase):
    def test_lists_that_do_not_tell_all_squares_once(self):
        for numbers in WRONG_FOR_FIVE:
            self.assertEqual(ask_last(*FIVE, rename(numbers)), [-22], numbers)

    def test_then_nothing_is_changed(self):
        for numbers in WRONG_FOR_FIVE:
            self.assertEqual(ask_last(*FIVE, rename(numbers), state()), [5] + EASTERN + NORTHERN)
            self.assertEqual(eastern_and_northern(*FIVE, rename(numbers)), (EASTERN, NORTHERN))

    def test_all_squares_are_those_of_the_newest_begin(self):
        self.assertEqual(ask_last(begin(5), begin(3), rename([0, 1, 2, 3, 4])), [-22])
        self.assertEqual(ask_last(begin(3), begin(7), rename([2, 1, 0])), [0])


class Renamed(unittest.TestCase):
    def test_it_answers_0(self):
        self.assertEqual(ask_last(*FIVE, rename(NEW_ORDER)), [0])
        self.assertEqual(ask_last(begin(1), rename([0])), [0])

    def test_state_tells_the_renamed_one(self):
        self.assertEqual(ask_last(*FIVE, rename(NEW_ORDER), state()), [5] + NEW_EASTERN + NEW_NORTHERN)

    def test_go_tells_the_renamed_one(self):
        self.assertEqual(eastern_and_northern(*FIVE, rename(NEW_ORDER)), (NEW_EASTERN, NEW_NORTHERN))

    def test_western_and_southern_steps_are_renamed_too(self):
        given = ask(*FIVE, rename(NEW_ORDER), *[go(square, step) for step in (2, 3) for square in range(5)])[3:]
        self.assertEqual(given, [[2], [4], [0], [1], [3]] + [[1], [2], [4], [3], [0]])

    def test_corner_tells_the_renamed_one(self):
        for new, old in enumerate(NEW_ORDER):
            before, after = ask_last(*FIVE, corner(old)), ask_last(*FIVE, rename(NEW_ORDER), corner(new))
            self.assertEqual(after, before[:1] + [NEW_ORDER.index(square) for square in before[1:]])

    def test_the_first_one_in_the_list_is_0_and_the_next_one_1(self):
        # In the row 2 stands behind 1, and 0 behind 2.
        given = ask(begin(3), rename([2, 1, 0]), go(0, 0), go(1, 0), go(2, 0), state())[2:]
        self.assertEqual(given, [[2], [0], [1], [3, 2, 0, 1, 0, 1, 2]])
        # 3 has become 0, and 0 has become 1: where a step led from one to the other it still does.
        self.assertEqual(ask(*FIVE, go(0, 1), rename(NEW_ORDER), go(1, 1))[2:], [[3], [0], [0]])

    def test_name_and_holes_are_as_before(self):
        given = ask(*FIVE, name(), holes(), selves(), rename(NEW_ORDER), name(), holes(), selves())[2:]
        self.assertEqual(given[4:], given[:3])
        self.assertEqual(ask(*FIVE, rename(NEW_ORDER), same(EASTERN, NORTHERN))[3:], [[1]])

    def test_by_all_squares_in_their_order_it_stays(self):
        self.assertEqual(ask_last(*FIVE, rename([0, 1, 2, 3, 4]), state()), [5] + EASTERN + NORTHERN)

    def test_there_and_back(self):
        back = [1, 3, 4, 0, 2]
        self.assertEqual(ask_last(*FIVE, rename(NEW_ORDER), rename(back), state()), [5] + EASTERN + NORTHERN)

    def test_one_behind_another(self):
        # 3, 0, 4, 1, 2 and of these again the one at 3, the one at 0, and so on.
        both = [1, 3, 2, 0, 4]
        once, twice = ask_last(*FIVE, rename(both), state()), ask_last(*FIVE, *[rename(NEW_ORDER)] * 2, state())
        self.assertEqual(once, twice)

    def test_corners_rows_and_columns_stand_by_the_new_least_squares(self):
        apart = (begin(4), glue([0, 2, 3, 1], [1, 0, 2, 3]))
        asked = (corners(), rows(), columns())
        self.assertEqual(ask(*apart, *asked)[2:], [[2, 3, 1], [2, 1, 3], [3, 2, 1, 1]])
        self.assertEqual(ask(*apart, rename([2, 3, 1, 0]), *asked)[3:], [[2, 1, 3], [2, 3, 1], [3, 1, 1, 2]])


class State(unittest.TestCase):
    def test_behind_begin(self):
        self.assertEqual(ask_last(begin(1), state()), [1, 0, 0])
        self.assertEqual(ask_last(begin(2), state()), [2, 1, 0, 0, 1])
        self.assertEqual(ask_last(begin(6), state()), [6, 1, 2, 3, 4, 5, 0, 0, 1, 2, 3, 4, 5])

    def test_behind_a_second_begin(self):
        self.assertEqual(ask_last(*FIVE, begin(2), state()), [2, 1, 0, 0, 1])
        self.assertEqual(ask_last(*FIVE, rename(NEW_ORDER), begin(5), state()), [5, 1, 2, 3, 4, 0, 0, 1, 2, 3, 4])

    def test_behind_glue(self):
        self.assertEqual(ask_last(*FIVE, state()), [5] + EASTERN + NORTHERN)
        self.assertEqual(ask_last(*FIVE, glue(NORTHERN, EASTERN), state()), [5] + NORTHERN + EASTERN)

    def test_behind_rename_and_a_later_glue(self):
        self.assertEqual(ask_last(*FIVE, rename(NEW_ORDER), state()), [5] + NEW_EASTERN + NEW_NORTHERN)
        self.assertEqual(ask_last(*FIVE, rename(NEW_ORDER), glue(EASTERN, NORTHERN), state()),
                         [5] + EASTERN + NORTHERN)

    def test_behind_refused_calls(self):
        refused = (
            begin(0), begin(7), glue([], []), glue(EASTERN, [0]), glue([0, 1, 2, 3, 4], [0, 1, 2, 3, 4]), go(5, 0),
            go(0, 4), walk(5, []), walk(0, [4]), walk(0, [0] * 31), corner(5), same([0], [0]),
            same([0, 1, 2, 3, 4], [0, 1, 2, 3, 4]), rename([0, 1]), near(5, 0), near(0, 5),
        )
        for call in refused:
            given, told = ask(*FIVE, call, state())[2:]
            self.assertLess(given[0], 0, call)
            self.assertEqual(told, [5] + EASTERN + NORTHERN, call)
        self.assertEqual(ask_last(*FIVE, *refused, state()), [5] + EASTERN + NORTHERN)

    def test_behind_calls_that_only_ask(self):
        asking = (
            go(0, 1), walk(0, [0, 1, 2]), corners(), corner(1), holes(), name(), same(NORTHERN, EASTERN), selves(),
            rows(), columns(), near(0, 4), state(),
        )
        for call in asking:
            self.assertEqual(ask_last(*FIVE, call, state()), [5] + EASTERN + NORTHERN, call)
        self.assertEqual(ask_last(*FIVE, *asking, state()), [5] + EASTERN + NORTHERN)


if __name__ == "__main__":
    unittest.main()
