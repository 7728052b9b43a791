"""Promise 2: same and selves."""

import itertools
import unittest

from spelling import GREATEST, ask, ask_last, begin, glue, same, selves, state

L_SHAPE = ([1, 0, 2], [2, 1, 0])
ROW = ([1, 2, 0], [0, 1, 2])
COLUMN = ([0, 1, 2], [1, 2, 0])
WRONG_FOR_THREE = (
    [], [0], [0, 1], [2, 0, 1, 0], [0, 1, 2, 3], [0, 1, 1], [2, 2, 2], [1, 2, 3], [0, 1, GREATEST],
    [0, 1, 2] + [0] * 252, [GREATEST] * 255,
)


def same_as(surface, l, k):
    return ask_last(begin(len(surface[0])), glue(*surface), same(l, k))


def selves_of(eastern, northern):
    return ask_last(begin(len(eastern)), glue(eastern, northern), selves())


class SameRefused(unittest.TestCase):
    def test_lists_that_do_not_tell_all_squares_once(self):
        good = [1, 2, 0]
        for numbers in WRONG_FOR_THREE:
            for l, k in ((numbers, good), (good, numbers), (numbers, numbers)):
                self.assertEqual(same_as(L_SHAPE, l, k), [-22], (l, k))

    def test_a_surface_of_more_or_fewer_squares(self):
        self.assertEqual(ask_last(begin(2), same([0], [0])), [-22])
        self.assertEqual(ask_last(begin(2), same([1, 2, 0], [0, 1, 2])), [-22])
        self.assertEqual(ask_last(begin(3), begin(2), same([1, 2, 0], [0, 1, 2])), [-22])

    def test_squares_that_do_not_hang_together(self):
        for l, k in (([0, 1, 2], [0, 1, 2]), ([1, 0, 2], [1, 0, 2]), ([0, 2, 1], [0, 1, 2]), ([0, 1, 2], [2, 1, 0])):
            self.assertEqual(same_as(L_SHAPE, l, k), [-33], (l, k))
        self.assertEqual(ask_last(begin(6), same([1, 2, 0, 4, 5, 3], [2, 0, 1, 3, 5, 4])), [-33])

    def test_where_both_are_due_the_first_is_answered(self):
        for l, k in (([0, 0], [0, 1]), ([0, 1], [0, 1, 0]), ([0, 1], []), ([0], [0]), ([0, 2], [0, 1])):
            self.assertEqual(ask_last(begin(2), same(l, k)), [-22], (l, k))

    def test_nothing_is_changed(self):
        lists = (ROW, COLUMN, L_SHAPE, ([0, 1, 2], [0, 1, 2]), ([0, 1, 1], [0, 1, 2]), ([], []))
        given = ask(begin(3), glue(*L_SHAPE), *[call for l, k in lists for call in (same(l, k), state())])[2:]
        self.assertEqual(given[0::2], [[0], [0], [1], [-33], [-22], [-22]])
        self.assertEqual(given[1::2], [[3, 1, 0, 2, 2, 1, 0]] * len(lists))


class Same(unittest.TestCase):
    def test_the_same_lists(self):
        for surface in (L_SHAPE, ROW, COLUMN, ([0], [0]), ([1, 0, 3, 2], [2, 3, 0, 1])):
            self.assertEqual(same_as(surface, *surface), [1], surface)

    def test_a_row_begun(self):
        self.assertEqual(ask_last(begin(4), same([1, 2, 3, 0], [0, 1, 2, 3])), [1])
        self.assertEqual(ask_last(begin(4), same([2, 3, 1, 0], [0, 1, 2, 3])), [1])
        self.assertEqual(ask_last(begin(4), same([0, 1, 2, 3], [2, 3, 1, 0])), [0])

    def test_renamed_ones(self):
        renamed = (([1, 0, 2], [2, 1, 0]), ([2, 1, 0], [1, 0, 2]), ([1, 0, 2], [0, 2, 1]), ([0, 2, 1], [1, 0, 2]),
                   ([2, 1, 0], [0, 2, 1]), ([0, 2, 1], [2, 1, 0]))
        for first, second in itertools.product(renamed, renamed):
            self.assertEqual(same_as(first, *second), [1], (first, second))

    def test_others(self):
        others = (
            (L_SHAPE, ROW),
            (L_SHAPE, COLUMN),
            # As many squares, rows, columns and plain corners each, but glued with another shift.
            (([1, 2, 0], [1, 2, 0]), ([1, 2, 0], [2, 0, 1])),
            (([1, 2, 3, 4, 0], [1, 2, 3, 4, 0]), ([1, 2, 3, 4, 0], [2, 3, 4, 0, 1])),
            (([1, 2, 3, 0], [2, 3, 0, 1]), ([1, 2, 3, 0], [0, 1, 2, 3])),
        )
        for first, second in others:
            self.assertEqual(same_as(first, *second), [0], (first, second))
            self.assertEqual(same_as(second, *first), [0], (second, first))

    def test_lists_that_are_exchanged(self):
        eastern, northern = [0, 2, 3, 1], [1, 0, 2, 3]
        self.assertEqual(same_as((eastern, northern), northern, eastern), [0])

    def test_the_same_turned(self):
        self.assertEqual(same_as(ROW, *COLUMN), [0])
        self.assertEqual(same_as(COLUMN, *ROW), [0])
        # Turned, its eastern ones are the northern ones it had, its northern ones the western ones.
        self.assertEqual(same_as(([0, 2, 3, 1], [1, 0, 2, 3]), [1, 0, 2, 3], [0, 3, 1, 2]), [0])
        self.assertEqual(same_as(([1, 0, 3, 2], [2, 3, 0, 1]), [2, 3, 0, 1], [1, 0, 3, 2]), [1])
        self.assertEqual(same_as(L_SHAPE, [2, 1, 0], [1, 0, 2]), [1])


class Selves(unittest.TestCase):
    def test_one_square(self):
        self.assertEqual(ask_last(begin(1), selves()), [1])

    def test_a_row_and_a_column(self):
        for size in range(1, 7):
            squares = list(range(size))
            row = squares[1:] + [0]
            self.assertEqual(ask_last(begin(size), selves()), [size])
            self.assertEqual(selves_of(row, squares), [size])
            self.assertEqual(selves_of(squares, row), [size])

    def test_all_alike(self):
        self.assertEqual(selves_of([1, 0, 3, 2], [2, 3, 0, 1]), [4])
        self.assertEqual(selves_of([1, 2, 0, 4, 5, 3], [3, 4, 5, 0, 1, 2]), [6])
        # All alike, though east then north leads elsewhere than north then east.
        self.assertEqual(selves_of([1, 2, 0, 4, 5, 3], [3, 5, 4, 0, 2, 1]), [6])

    def test_in_one_way_only(self):
        for eastern, northern in (L_SHAPE, ([1, 2, 3, 0], [1, 0, 2, 3]), ([1, 0, 3, 2, 4], [0, 2, 1, 4, 3])):
            self.assertEqual(selves_of(eastern, northern), [1], (eastern, northern))

    def test_in_some_ways(self):
        self.assertEqual(selves_of([1, 0, 3, 2], [2, 1, 0, 3]), [2])
        self.assertEqual(selves_of([1, 2, 3, 0], [2, 1, 0, 3]), [2])
        self.assertEqual(selves_of([1, 0, 3, 2, 5, 4], [2, 1, 4, 3, 0, 5]), [3])
        self.assertEqual(selves_of([1, 2, 0, 4, 5, 3], [3, 1, 2, 0, 4, 5]), [2])

    def test_it_divides_how_many_squares_there_are(self):
        orders = [list(order) for order in itertools.permutations(range(4))]
        for eastern, northern in itertools.product(orders, orders):
            glued, ways = ask(begin(4), glue(eastern, northern), selves())[1:]
            if glued != [-33]:
                self.assertIn(ways, ([1], [2], [4]), (eastern, northern))

    def test_nothing_is_changed(self):
        self.assertEqual(ask_last(begin(3), glue(*L_SHAPE), selves(), state()), [3, 1, 0, 2, 2, 1, 0])


if __name__ == "__main__":
    unittest.main()
