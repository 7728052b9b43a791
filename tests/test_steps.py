"""Promise 2: go and walk."""

import unittest

from spelling import GREATEST, ask, ask_last, begin, eastern_and_northern, glue, go, walk

EASTERN, NORTHERN = [1, 2, 0, 4, 3], [3, 1, 4, 2, 0]
FIVE = (begin(5), glue(EASTERN, NORTHERN))


class Go(unittest.TestCase):
    def test_each_step(self):
        by_step = (EASTERN, NORTHERN, [2, 0, 1, 4, 3], [4, 1, 3, 0, 2])
        for step, ones in enumerate(by_step):
            for square, one in enumerate(ones):
                self.assertEqual(ask_last(*FIVE, go(square, step)), [one], (square, step))

    def test_on_one_square(self):
        for step in range(4):
            self.assertEqual(ask_last(begin(1), go(0, step)), [0])

    def test_no_such_square(self):
        for square in (5, 6, 255, GREATEST):
            self.assertEqual(ask_last(*FIVE, go(square, 0)), [-2])

    def test_a_step_above_three(self):
        for step in (4, 5, 255, GREATEST):
            self.assertEqual(ask_last(*FIVE, go(4, step)), [-22])

    def test_where_both_are_due_no_such_square_is_answered(self):
        for square, step in ((5, 4), (GREATEST, GREATEST)):
            self.assertEqual(ask_last(*FIVE, go(square, step)), [-2])

    def test_nothing_is_changed(self):
        calls = FIVE + (go(0, 1), go(9, 0), go(0, 9), walk(0, [0, 1]), walk(9, []), walk(0, [4]), walk(0, [0] * 31))
        self.assertEqual(eastern_and_northern(*calls), (EASTERN, NORTHERN))


class Walk(unittest.TestCase):
    def test_without_a_step_one_stays(self):
        for square in range(5):
            self.assertEqual(ask_last(*FIVE, walk(square, [])), [square])

    def test_one_step_is_as_go(self):
        for square in range(5):
            for step in range(4):
                self.assertEqual(*ask(*FIVE, walk(square, [step]), go(square, step))[2:])

    def test_the_steps_are_gone_in_their_order(self):
        self.assertEqual(ask_last(*FIVE, walk(0, [0, 1])), [1])
        self.assertEqual(ask_last(*FIVE, walk(0, [1, 0])), [4])
        self.assertEqual(ask_last(*FIVE, walk(0, [0, 1, 2, 3])), [4])
        self.assertEqual(ask_last(*FIVE, walk(0, [3, 2, 1, 0])), [0])

    def test_back_again(self):
        for square in range(5):
            self.assertEqual(ask_last(*FIVE, walk(square, [0, 1, 1, 0, 2, 3, 3, 2])), [square])

    def test_thirty_steps_and_thirty_one(self):
        self.assertEqual(ask_last(begin(6), walk(0, [0] * 29)), [5])
        self.assertEqual(ask_last(begin(6), walk(0, [0] * 30)), [0])
        self.assertEqual(ask_last(begin(4), walk(1, [0] * 30)), [3])
        self.assertEqual(ask_last(begin(6), walk(0, [0] * 31)), [-22])
        self.assertEqual(ask_last(begin(6), walk(0, [0] * 255)), [-22])

    def test_a_step_above_three(self):
        for steps in ([4], [GREATEST], [0, 1, 2, 3, 4], [4, 0], [0] * 29 + [4], [0] * 30 + [4]):
            self.assertEqual(ask_last(*FIVE, walk(0, steps)), [-22], steps)

    def test_no_such_square(self):
        for square in (5, GREATEST):
            for steps in ([], [0], [4], [0] * 31, [GREATEST] * 255):
                self.assertEqual(ask_last(*FIVE, walk(square, steps)), [-2], (square, steps))


if __name__ == "__main__":
    unittest.main()
