"""Promise 1: begin and glue."""

import unittest

from spelling import GREATEST, ask, ask_last, begin, corners, eastern_and_northern, glue, go, holes, name

L_SHAPE = ([1, 0, 2], [2, 1, 0])


class Begin(unittest.TestCase):
    def test_sizes_from_one_to_six_are_taken(self):
        for n in range(1, 7):
            self.assertEqual(ask(begin(n)), [[0]])

    def test_other_sizes_are_refused(self):
        for n in (0, 7, 8, 255, 256, 2 ** 31, GREATEST):
            self.assertEqual(ask(begin(n)), [[-22]])

    def test_it_is_one_row(self):
        for n in range(1, 7):
            row = [(square + 1) % n for square in range(n)]
            self.assertEqual(eastern_and_northern(begin(n)), (row, list(range(n))))

    def test_a_second_begin_lays_a_new_row(self):
        self.assertEqual(eastern_and_northern(begin(3), glue(*L_SHAPE), begin(3)), ([1, 2, 0], [0, 1, 2]))
        self.assertEqual(eastern_and_northern(begin(6), begin(1)), ([0], [0]))
        self.assertEqual(eastern_and_northern(begin(1), begin(6)), ([1, 2, 3, 4, 5, 0], [0, 1, 2, 3, 4, 5]))

    def test_a_refused_begin_leaves_what_was_there(self):
        for n in (0, 7, GREATEST):
            self.assertEqual(ask_last(begin(3), glue(*L_SHAPE), begin(n)), [-22])
            self.assertEqual(eastern_and_northern(begin(3), glue(*L_SHAPE), begin(n)), L_SHAPE)

    def test_a_refused_begin_begins_nothing(self):
        self.assertEqual(ask(begin(0), corners(), begin(7), holes()), [[-22], [-11], [-22], [-11]])


class GlueRefused(unittest.TestCase):
    def test_lists_that_do_not_tell_all_squares_once(self):
        good = [1, 2, 0]
        wrong = (
            [], [0], [0, 1], [0, 1, 2, 0], [0, 1, 2, 3], [0, 1, 1], [2, 2, 2], [1, 2, 3], [0, 1, GREATEST],
            [0, 1, 2] + [0] * 252, [GREATEST] * 255,
        )
        for numbers in wrong:
            for l, k in ((numbers, good), (good, numbers), (numbers, numbers)):
                self.assertEqual(ask_last(begin(3), glue(l, k)), [-22], (l, k))

    def test_all_squares_are_those_of_the_newest_begin(self):
        self.assertEqual(ask_last(begin(3), begin(2), glue([1, 2, 0], [0, 1, 2])), [-22])
        self.assertEqual(ask_last(begin(2), begin(7), glue([1, 0], [0, 1])), [2])

    def test_squares_that_do_not_hang_together(self):
        apart = (
            ([0, 1], [0, 1]),
            ([0, 1, 2], [1, 0, 2]),
            ([1, 0, 2], [1, 0, 2]),
            ([1, 0, 3, 2], [1, 0, 3, 2]),
            ([1, 2, 0, 4, 5, 3], [2, 0, 1, 3, 5, 4]),
            ([0, 2, 3, 4, 5, 1], [0, 1, 2, 3, 4, 5]),
        )
        for l, k in apart:
            self.assertEqual(ask_last(begin(len(l)), glue(l, k)), [-33], (l, k))

    def test_where_both_are_due_the_first_is_answered(self):
        for l, k in (([0, 0], [0, 1]), ([0, 1], [0, 1, 0]), ([0, 1], []), ([0], [0]), ([0, 2], [0, 1])):
            self.assertEqual(ask_last(begin(2), glue(l, k)), [-22], (l, k))

    def test_a_refused_glue_changes_nothing(self):
        refused = (
            ([1, 2, 0], [0, 1]), ([0, 1], [1, 2, 0]), ([1, 2, 0], [1, 1, 0]), ([], []), ([0, 1, 2], [0, 1, 2]),
            ([0, 2, 1], [0, 1, 2]),
        )
        before = ask(begin(3), glue(*L_SHAPE), corners(), holes(), name())[2:]
        for l, k in refused:
            calls = (begin(3), glue(*L_SHAPE), glue(l, k))
            self.assertEqual(eastern_and_northern(*calls), L_SHAPE)
            self.assertEqual(ask(*calls, corners(), holes(), name())[3:], before)

    def test_a_refused_glue_leaves_a_row_too(self):
        self.assertEqual(eastern_and_northern(begin(2), glue([0, 1], [0, 1])), ([1, 0], [0, 1]))


class GlueTaken(unittest.TestCase):
    def test_it_answers_how_many_corners_there_are(self):
        taken = (
            ([0], [0], 1),
            ([1, 0], [0, 1], 2),
            ([0, 1], [1, 0], 2),
            ([1, 0], [1, 0], 2),
            ([1, 0, 2], [2, 1, 0], 1),
            ([1, 0, 3, 2], [2, 3, 0, 1], 4),
            ([1, 2, 3, 0], [1, 0, 2, 3], 2),
            ([1, 2, 3, 4, 5, 0], [0, 1, 2, 3, 4, 5], 6),
        )
        for l, k, many in taken:
            self.assertEqual(ask_last(begin(len(l)), glue(l, k)), [many], (l, k))

    def test_the_lists_are_the_eastern_and_the_northern_ones(self):
        l, k = [3, 0, 1, 5, 2, 4], [1, 2, 0, 4, 5, 3]
        self.assertEqual(eastern_and_northern(begin(6), glue(l, k)), (l, k))

    def test_a_later_glue_takes_the_place_of_an_earlier_one(self):
        self.assertEqual(eastern_and_northern(begin(3), glue([1, 2, 0], [1, 2, 0]), glue(*L_SHAPE)), L_SHAPE)

    def test_one_number_is_answered(self):
        self.assertEqual(ask(begin(1), glue([0], [0]), go(0, 0)), [[0], [1], [0]])


if __name__ == "__main__":
    unittest.main()
