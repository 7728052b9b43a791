"""Promise 3, and promise 2 against what is found by trying: over all surfaces of few squares, and many of six."""

import itertools
import unittest

from spelling import (
    MOST_CALLS, ask, ask_last, begin, columns, corner, corners, glue, go, holes, name, near, rename, rows, same, selves,
    state, walk,
)


def reached(eastern, northern):
    squares = {0}
    while True:
        more = squares | {eastern[square] for square in squares} | {northern[square] for square in squares}
        if more == squares:
            return squares
        squares = more


def surfaces(size):
    orders = [list(order) for order in itertools.permutations(range(size))]
    return [(l, k) for l in orders for k in orders if len(reached(l, k)) == size]


def some_of_six():
    orders = [list(order) for order in itertools.permutations(range(6))]
    pairs = [(orders[(turn * 389) % 720], orders[(turn * turn * 7 + 11) % 720]) for turn in range(400)]
    return [(l, k) for l, k in pairs if len(reached(l, k)) == 6]


def all_and_some():
    return [surface for size in range(1, 5) for surface in surfaces(size)] + some_of_six()


def renamed(surface, order):
    return tuple([order.index(ones[square]) for square in order] for ones in surface)


def look(surface):
    size = len(surface[0])
    calls = [corners(), holes(), name()] + [corner(square) for square in range(size)]
    return ask(begin(size), glue(*surface), *calls)[1:]


def once_round(surface, square):
    eastern, northern = surface
    return northern.index(eastern.index(northern[eastern[square]]))


class Corners(unittest.TestCase):
    def check(self, surface):
        size = len(surface[0])
        many, sizes, hole_count, told_name, *each = look(surface)
        met = {}
        for square, (count, *squares) in enumerate(each):
            self.assertEqual(count, len(squares))
            self.assertEqual(squares[0], square)
            self.assertEqual([once_round(surface, one) for one in squares], squares[1:] + [square])
            met.setdefault(frozenset(squares), len(squares))
        self.assertEqual(sorted(square for squares in met for square in squares), list(range(size)))
        self.assertEqual(many, [len(met)])
        self.assertEqual(sizes, [len(met)] + list(met.values()))
        self.assertEqual((size - len(met)) % 2, 0)
        self.assertEqual(2 * hole_count[0] - 2, size - len(met))

    def test_each_square_once_and_holes_by_corners(self):
        for size in range(1, 5):
            for surface in surfaces(size):
                self.check(surface)

    def test_the_same_of_six_squares(self):
        chosen = some_of_six()
        self.assertGreater(len(chosen), 100)
        for surface in chosen:
            self.check(surface)


class Names(unittest.TestCase):
    def test_one_name_just_if_some_renaming_fits(self):
        for size in range(1, 5):
            names = {}
            for surface in surfaces(size):
                kind = min(renamed(surface, order) for order in itertools.permutations(range(size)))
                names.setdefault(repr(kind), set()).add(tuple(look(surface)[3]))
            self.assertTrue(all(len(told) == 1 for told in names.values()))
            self.assertEqual(len(set.union(*names.values())), len(names))

    def test_a_name_tells_a_surface_that_has_this_name(self):
        for surface in surfaces(3) + surfaces(4) + some_of_six():
            size = len(surface[0])
            count, *numbers = look(surface)[3]
            self.assertEqual(count, len(numbers))
            named = (numbers[:size], numbers[size:])
            self.assertTrue(any(renamed(surface, order) == named for order in itertools.permutations(range(size))))
            self.assertEqual(look(named)[3], [count] + numbers)

    def test_renamed_it_has_the_same_name_and_as_many_holes(self):
        orders = ([5, 4, 3, 2, 1, 0], [1, 0, 2, 3, 4, 5], [3, 5, 0, 1, 4, 2])
        for surface in some_of_six():
            for order in orders:
                self.assertEqual(look(renamed(surface, order))[2:4], look(surface)[2:4])

    def test_the_name_is_the_least_of_the_orders_from_the_squares(self):
        for surface in surfaces(4) + some_of_six():
            least = min(sum(renamed(surface, order), []) for order in self.orders(surface))
            self.assertEqual(look(surface)[3][1:], least)

    def orders(self, surface):
        eastern, northern = surface
        for first in range(len(eastern)):
            order = [first]
            for square in order:
                order.extend([eastern[square]] if eastern[square] not in order else [])
                order.extend([northern[square]] if northern[square] not in order else [])
            yield order


def fits_some_renaming(first, second):
    return any(renamed(first, order) == second for order in itertools.permutations(range(len(first[0]))))


def told_same(surface, others):
    """What same answers for each of these, on one surface."""
    given = []
    for place in range(0, len(others), MOST_CALLS - 2):
        asked = [same(*other) for other in others[place:place + MOST_CALLS - 2]]
        given.extend(ask(begin(len(surface[0])), glue(*surface), *asked)[2:])
    return given


class Same(unittest.TestCase):
    def check(self, chosen, others):
        both = set()
        for surface in chosen:
            for other, given in zip(others, told_same(surface, others), strict=True):
                self.assertEqual(given, [int(fits_some_renaming(surface, other))], (surface, other))
                both.add(given[0])
        return both

    def test_just_if_some_renaming_fits(self):
        for size in range(1, 4):
            self.check(surfaces(size), surfaces(size))

    def test_just_if_some_renaming_fits_of_four_squares(self):
        chosen = surfaces(4)
        self.assertEqual(self.check(chosen[::9], chosen[::2]), {0, 1})

    def test_just_if_some_renaming_fits_of_six_squares(self):
        chosen = some_of_six()[::30]
        orders = ([5, 4, 3, 2, 1, 0], [3, 5, 0, 1, 4, 2])
        others = chosen + [renamed(surface, order) for surface in chosen for order in orders]
        turned = [(northern, [eastern.index(square) for square in range(6)]) for eastern, northern in chosen]
        self.assertEqual(self.check(chosen, others + turned), {0, 1})


class Selves(unittest.TestCase):
    def test_as_many_as_renamings_that_change_nothing(self):
        for surface in [one for size in range(1, 5) for one in surfaces(size)] + some_of_six()[::10]:
            size = len(surface[0])
            ways = sum(renamed(surface, order) == surface for order in itertools.permutations(range(size)))
            self.assertEqual(ask_last(begin(size), glue(*surface), selves()), [ways], surface)

    def test_they_divide_how_many_squares_there_are(self):
        orders = [list(order) for order in itertools.permutations(range(6))]
        # Few of those chosen are alike in several ways; of one row of six glued to itself many are.
        row = [1, 2, 3, 4, 5, 0]
        met = set()
        for surface in all_and_some() + [(row, order) for order in orders]:
            size = len(surface[0])
            ways = ask_last(begin(size), glue(*surface), selves())[0]
            self.assertEqual(size % ways, 0, surface)
            met.add((size, ways))
        self.assertTrue({(6, 1), (6, 2), (6, 3), (6, 6), (4, 1), (4, 2), (4, 4), (3, 1), (3, 3)} <= met)


class Rename(unittest.TestCase):
    def check(self, surface, order):
        asked = [name(), holes(), selves()]
        given = ask(begin(len(order)), glue(*surface), *asked, rename(order), *asked, same(*surface), state())[2:]
        self.assertEqual(given[3], [0])
        self.assertEqual(given[4:7], given[:3])
        self.assertEqual(given[7], [1])
        eastern, northern = renamed(surface, order)
        self.assertEqual(given[8], [len(order)] + eastern + northern)

    def test_it_has_the_same_name_and_as_many_holes(self):
        for size in range(1, 5):
            for surface in surfaces(size):
                for order in itertools.permutations(range(size)):
                    self.check(surface, list(order))

    def test_it_has_the_same_name_and_as_many_holes_of_six_squares(self):
        orders = [list(order) for order in itertools.permutations(range(6))][5::67]
        for surface in some_of_six():
            for order in orders:
                self.check(surface, order)


class RowsAndColumns(unittest.TestCase):
    def lengths(self, ones):
        met = {}
        for square in range(len(ones)):
            squares = [square]
            while ones[squares[-1]] not in squares:
                squares.append(ones[squares[-1]])
            met.setdefault(min(squares), len(squares))
        return [len(met)] + list(met.values())

    def test_they_take_each_square_once(self):
        for surface in all_and_some():
            given = ask(begin(len(surface[0])), glue(*surface), rows(), columns())[2:]
            self.assertEqual(given, [self.lengths(ones) for ones in surface], surface)


class Near(unittest.TestCase):
    def fewest(self, surface):
        """How few steps lead from each square to each, by going over each square between."""
        size = len(surface[0])
        many = [[0 if s == t else size for t in range(size)] for s in range(size)]
        for ones in surface:
            for square, one in enumerate(ones):
                if square != one:
                    many[square][one] = many[one][square] = 1
        for between, s, t in itertools.product(range(size), repeat=3):
            many[s][t] = min(many[s][t], many[s][between] + many[between][t])
        return many

    def test_how_few_steps(self):
        for surface in all_and_some():
            size = len(surface[0])
            pairs = [near(s, t) for s in range(size) for t in range(size)]
            given = ask(begin(size), glue(*surface), *pairs)[2:]
            self.assertEqual(given, [[many] for row in self.fewest(surface) for many in row], surface)


class RefusedChangesNothing(unittest.TestCase):
    def refused(self, size):
        squares = list(range(size))
        short, beyond = squares[1:], squares[:-1] + [size]
        return [
            (begin(0), -22), (begin(7), -22), (glue(short, squares), -22), (glue(squares, beyond), -22),
            (go(size, 0), -2), (go(0, 4), -22), (walk(size, [4]), -2), (walk(0, [4]), -22), (walk(0, [1] * 31), -22),
            (corner(size), -2), (same(beyond, squares), -22), (same(squares, short), -22), (rename(short), -22),
            (rename(beyond), -22), (rename(squares + [0]), -22), (near(size, 0), -2), (near(0, size), -2),
        ] + ([(glue(squares, squares), -33), (same(squares, squares), -33)] if size > 1 else [])

    def test_state_tells_what_it_told(self):
        for surface in all_and_some():
            size = len(surface[0])
            refused = self.refused(size)
            asked = [call for refused_call, number in refused for call in (refused_call, state())]
            for place in (0, 20):
                given = ask(begin(size), glue(*surface), *asked[place:place + 20])[2:]
                self.assertEqual(given[0::2], [[number] for call, number in refused[place // 2:place // 2 + 10]])
                self.assertEqual(given[1::2], [[size] + surface[0] + surface[1]] * (len(given) // 2), surface)


if __name__ == "__main__":
    unittest.main()
