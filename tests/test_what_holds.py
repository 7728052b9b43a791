"""Promise 3, as far as steps, corners, holes and the name go: over all surfaces of few squares, and many of six."""

import itertools
import unittest

from spelling import ask, begin, corner, corners, glue, holes, name


def reached(eastern, northern):
    squares = {0}
    while True:
        more = squares | {eastern[square] for square in squares} | {northern[square] for square in squares}
        if more == squares:
            return squares
        squares = more


def surfaces(size):
    orders = [list(order) for order in itertools.permutations(range(size))]
    return [(l, k) for l in orders for k in orders if len(reached(l, k)) == size]


def some_of_six():
    orders = [list(order) for order in itertools.permutations(range(6))]
    pairs = [(orders[(turn * 389) % 720], orders[(turn * turn * 7 + 11) % 720]) for turn in range(400)]
    return [(l, k) for l, k in pairs if len(reached(l, k)) == 6]


def renamed(surface, order):
    return tuple([order.index(ones[square]) for square in order] for ones in surface)


def look(surface):
    size = len(surface[0])
    calls = [corners(), holes(), name()] + [corner(square) for square in range(size)]
    return ask(begin(size), glue(*surface), *calls)[1:]


def once_round(surface, square):
    eastern, northern = surface
    return northern.index(eastern.index(northern[eastern[square]]))


class Corners(unittest.TestCase):
    def check(self, surface):
        size = len(surface[0])
        many, sizes, hole_count, told_name, *each = look(surface)
        met = {}
        for square, (count, *squares) in enumerate(each):
            self.assertEqual(count, len(squares))
            self.assertEqual(squares[0], square)
            self.assertEqual([once_round(surface, one) for one in squares], squares[1:] + [square])
            met.setdefault(frozenset(squares), len(squares))
        self.assertEqual(sorted(square for squares in met for square in squares), list(range(size)))
        self.assertEqual(many, [len(met)])
        self.assertEqual(sizes, [len(met)] + list(met.values()))
        self.assertEqual((size - len(met)) % 2, 0)
        self.assertEqual(2 * hole_count[0] - 2, size - len(met))

    def test_each_square_once_and_holes_by_corners(self):
        for size in range(1, 5):
            for surface in surfaces(size):
                self.check(surface)

    def test_the_same_of_six_squares(self):
        chosen = some_of_six()
        self.assertGreater(len(chosen), 100)
        for surface in chosen:
            self.check(surface)


class Names(unittest.TestCase):
    def test_one_name_just_if_some_renaming_fits(self):
        for size in range(1, 5):
            names = {}
            for surface in surfaces(size):
                kind = min(renamed(surface, order) for order in itertools.permutations(range(size)))
                names.setdefault(repr(kind), set()).add(tuple(look(surface)[3]))
            self.assertTrue(all(len(told) == 1 for told in names.values()))
            self.assertEqual(len(set.union(*names.values())), len(names))

    def test_a_name_tells_a_surface_that_has_this_name(self):
        for surface in surfaces(3) + surfaces(4) + some_of_six():
            size = len(surface[0])
            count, *numbers = look(surface)[3]
            self.assertEqual(count, len(numbers))
            named = (numbers[:size], numbers[size:])
            self.assertTrue(any(renamed(surface, order) == named for order in itertools.permutations(range(size))))
            self.assertEqual(look(named)[3], [count] + numbers)

    def test_renamed_it_has_the_same_name_and_as_many_holes(self):
        orders = ([5, 4, 3, 2, 1, 0], [1, 0, 2, 3, 4, 5], [3, 5, 0, 1, 4, 2])
        for surface in some_of_six():
            for order in orders:
                self.assertEqual(look(renamed(surface, order))[2:4], look(surface)[2:4])

    def test_the_name_is_the_least_of_the_orders_from_the_squares(self):
        for surface in surfaces(4) + some_of_six():
            least = min(sum(renamed(surface, order), []) for order in self.orders(surface))
            self.assertEqual(look(surface)[3][1:], least)

    def orders(self, surface):
        eastern, northern = surface
        for first in range(len(eastern)):
            order = [first]
            for square in order:
                order.extend([eastern[square]] if eastern[square] not in order else [])
                order.extend([northern[square]] if northern[square] not in order else [])
            yield order


if __name__ == "__main__":
    unittest.main()
