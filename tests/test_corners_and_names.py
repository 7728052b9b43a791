"""Promise 2: corners, corner, holes and name, on the surfaces that the document names behind its promises."""

import unittest

from spelling import GREATEST, ask, ask_last, begin, corner, corners, eastern_and_northern, glue, holes, name


def asked_of(eastern, northern, *calls):
    return ask(begin(len(eastern)), glue(eastern, northern), *calls)[2:]


class Told(unittest.TestCase):
    def check(self, eastern, northern, sizes, each_corner, many_holes, least):
        size = len(eastern)
        calls = [corners(), holes(), name()] + [corner(square) for square in range(size)]
        given = asked_of(eastern, northern, *calls)
        self.assertEqual(given[0], [len(sizes)] + sizes)
        self.assertEqual(given[1], [many_holes])
        self.assertEqual(given[2], [2 * size] + least)
        self.assertEqual(given[3:], [[len(squares)] + squares for squares in each_corner])

    def test_one_square_its_own_eastern_and_northern_one(self):
        self.check([0], [0], [1], [[0]], 1, [0, 0])

    def test_a_row_that_is_glued_to_itself(self):
        row = [1, 2, 3, 4, 5, 0]
        each = [[square] for square in range(6)]
        self.check(row, list(range(6)), [1] * 6, each, 1, row + list(range(6)))

    def test_a_row_that_is_glued_to_itself_with_a_shift(self):
        self.check([1, 2, 3, 0], [2, 3, 0, 1], [1] * 4, [[0], [1], [2], [3]], 1, [1, 2, 3, 0, 2, 3, 0, 1])

    def test_a_row_that_is_glued_to_itself_out_of_order(self):
        self.check([1, 2, 3, 0], [1, 0, 2, 3], [3, 1], [[0, 3, 1], [1, 0, 3], [2], [3, 1, 0]], 2,
                   [1, 2, 3, 0, 0, 1, 3, 2])

    def test_a_row_begun_is_as_one_glued(self):
        given = ask(begin(4), corners(), corner(3), holes(), name())[1:]
        self.assertEqual(given, [[4, 1, 1, 1, 1], [1, 3], [1], [8, 1, 2, 3, 0, 0, 1, 2, 3]])

    def test_a_column(self):
        self.check([0, 1, 2], [1, 2, 0], [1] * 3, [[0], [1], [2]], 1, [0, 1, 2, 1, 2, 0])

    def test_two_rows_all_alike(self):
        self.check([1, 0, 3, 2], [2, 3, 0, 1], [1] * 4, [[0], [1], [2], [3]], 1, [1, 0, 3, 2, 2, 3, 0, 1])

    def test_two_rows_of_three_named_otherwise(self):
        self.check([2, 3, 4, 5, 0, 1], [1, 0, 3, 2, 5, 4], [1] * 6, [[square] for square in range(6)], 1,
                   [1, 3, 4, 0, 5, 2, 2, 4, 0, 5, 1, 3])

    def test_a_corner_that_all_squares_come_to(self):
        self.check([1, 0, 2], [2, 1, 0], [3], [[0, 2, 1], [1, 0, 2], [2, 1, 0]], 2, [0, 2, 1, 1, 0, 2])

    def test_corners_stand_by_their_least_squares(self):
        name_of_both = [0, 2, 3, 1, 1, 0, 2, 3]
        self.check([0, 2, 3, 1], [1, 0, 2, 3], [3, 1], [[0, 3, 1], [1, 0, 3], [2], [3, 1, 0]], 2, name_of_both)
        self.check([3, 0, 2, 1], [0, 2, 1, 3], [1, 3], [[0], [1, 2, 3], [2, 3, 1], [3, 1, 2]], 2, name_of_both)

    def test_a_corner_that_all_five_come_to(self):
        self.check([1, 0, 3, 2, 4], [0, 2, 1, 4, 3], [5],
                   [[0, 4, 1, 2, 3], [1, 2, 3, 0, 4], [2, 3, 0, 4, 1], [3, 0, 4, 1, 2], [4, 1, 2, 3, 0]], 3,
                   [0, 2, 1, 4, 3, 1, 0, 3, 2, 4])

    def test_no_holes_but_one_where_all_corners_are_plain(self):
        for eastern, northern in (([0], [0]), ([1, 0], [1, 0]), ([1, 2, 0], [2, 0, 1]), ([2, 3, 0, 1], [1, 2, 3, 0])):
            size = len(eastern)
            self.assertEqual(asked_of(eastern, northern, corners(), holes()), [[size] + [1] * size, [1]])

    def test_squares_alike_but_turned_have_two_names(self):
        row = asked_of([1, 2, 0], [0, 1, 2], name())
        column = asked_of([0, 1, 2], [1, 2, 0], name())
        self.assertNotEqual(row, column)


class NoSuchSquare(unittest.TestCase):
    def test_corner(self):
        for square in (3, 4, 255, GREATEST):
            self.assertEqual(ask_last(begin(3), corner(square)), [-2])

    def test_corner_after_a_begin_of_fewer_squares(self):
        self.assertEqual(ask_last(begin(6), begin(1), corner(1)), [-2])


class NothingIsChanged(unittest.TestCase):
    def test_by_asking(self):
        l, k = [1, 0, 2], [2, 1, 0]
        calls = (begin(3), glue(l, k), corners(), corner(1), corner(3), holes(), name())
        self.assertEqual(eastern_and_northern(*calls), (l, k))


if __name__ == "__main__":
    unittest.main()
