"""Promise 2: rows, columns and near."""

import unittest

from spelling import GREATEST, ask, ask_last, begin, columns, glue, near, rows, state

FIVE = ([1, 2, 0, 4, 3], [3, 1, 4, 2, 0])
# From 0 to 5 one goes by turns to the east and to the north, and no other way is shorter.
STAIRS = ([1, 0, 3, 2, 5, 4], [0, 2, 1, 4, 3, 5])


def asked_of(surface, *calls):
    return ask(begin(len(surface[0])), glue(*surface), *calls)[2:]


class RowsAndColumns(unittest.TestCase):
    def check(self, surface, row_sizes, column_sizes):
        eastern, northern = surface
        counted = [[len(sizes)] + sizes for sizes in (row_sizes, column_sizes)]
        self.assertEqual(asked_of(surface, rows(), columns()), counted)
        # With east and north exchanged what was a row is a column.
        self.assertEqual(asked_of((northern, eastern), columns(), rows()), counted)

    def test_one_square(self):
        self.check(([0], [0]), [1], [1])

    def test_one_row_and_each_square_a_column_of_its_own(self):
        for size in range(1, 7):
            self.assertEqual(ask(begin(size), rows(), columns())[1:], [[1, size], [size] + [1] * size])

    def test_one_column_and_each_square_a_row_of_its_own(self):
        self.check(([0, 1, 2, 3, 4, 5], [1, 2, 3, 4, 5, 0]), [1] * 6, [6])

    def test_two_rows(self):
        self.check(([1, 0, 3, 2], [2, 3, 0, 1]), [2, 2], [2, 2])
        self.check(([1, 2, 0, 4, 5, 3], [3, 4, 5, 0, 1, 2]), [3, 3], [2, 2, 2])

    def test_one_row_that_is_one_column_too(self):
        self.check(([1, 2, 3, 4, 0], [2, 3, 4, 0, 1]), [5], [5])

    def test_they_stand_by_their_least_squares_not_by_how_long_they_are(self):
        self.check(FIVE, [3, 2], [4, 1])
        self.check(([1, 0, 3, 4, 2], [2, 1, 0, 3, 4]), [2, 3], [2, 1, 1, 1])
        self.check(([0, 3, 2, 5, 4, 1], [1, 2, 4, 3, 0, 5]), [1, 3, 1, 1], [4, 1, 1])
        self.check(([5, 1, 4, 3, 2, 0], [1, 2, 3, 0, 4, 5]), [2, 1, 2, 1], [4, 1, 1])

    def test_nothing_is_changed(self):
        self.assertEqual(asked_of(FIVE, rows(), columns(), state())[2], [5] + FIVE[0] + FIVE[1])


class Near(unittest.TestCase):
    def test_no_such_square(self):
        for square in (5, 6, 255, GREATEST):
            for s, t in ((square, 0), (0, square), (square, square), (square, 5), (5, square)):
                self.assertEqual(asked_of(FIVE, near(s, t)), [[-2]], (s, t))

    def test_the_squares_are_those_of_the_newest_begin(self):
        self.assertEqual(ask_last(begin(6), begin(2), near(0, 2)), [-2])
        self.assertEqual(ask_last(begin(6), begin(2), near(2, 0)), [-2])
        self.assertEqual(ask_last(begin(2), begin(6), near(0, 2)), [2])

    def test_from_a_square_to_itself(self):
        for size in range(1, 7):
            for square in range(size):
                self.assertEqual(ask_last(begin(size), near(square, square)), [0])

    def test_one_step_each_way(self):
        # Around 0: 1 in the east, 3 in the north, 2 in the west, 4 in the south.
        for square in (1, 2, 3, 4):
            self.assertEqual(asked_of(FIVE, near(0, square), near(square, 0)), [[1], [1]])

    def test_a_neighbour_that_is_the_square_itself(self):
        self.assertEqual(asked_of(FIVE, near(1, 1)), [[0]])

    def test_a_row_of_six(self):
        given = ask(begin(6), *[near(0, square) for square in range(6)])[1:]
        self.assertEqual(given, [[0], [1], [2], [3], [2], [1]])
        given = ask(begin(6), *[near(4, square) for square in range(6)])[1:]
        self.assertEqual(given, [[2], [3], [2], [1], [0], [1]])

    def test_a_column_of_six(self):
        column = ([0, 1, 2, 3, 4, 5], [1, 2, 3, 4, 5, 0])
        given = asked_of(column, *[near(0, square) for square in range(6)])
        self.assertEqual(given, [[0], [1], [2], [3], [2], [1]])

    def test_the_farthest_of_all(self):
        for s in range(6):
            given = asked_of(STAIRS, *[near(s, t) for t in range(6)])
            self.assertEqual(given, [[abs(s - t)] for t in range(6)])

    def test_steps_of_several_kinds(self):
        # From 1 alone 3 and 4 can't be reached by one step; 0 and 2 lead there.
        self.assertEqual(asked_of(FIVE, *[near(1, square) for square in range(5)]), [[1], [0], [1], [2], [2]])
        two_rows = ([1, 2, 0, 4, 5, 3], [3, 4, 5, 0, 1, 2])
        self.assertEqual(asked_of(two_rows, *[near(0, square) for square in range(6)]),
                         [[0], [1], [1], [1], [2], [2]])

    def test_nothing_is_changed(self):
        given = asked_of(FIVE, near(0, 4), near(5, 0), near(0, 5), state())
        self.assertEqual(given, [[1], [-2], [-2], [5] + FIVE[0] + FIVE[1]])


if __name__ == "__main__":
    unittest.main()
