"""Ribbons, characters, centers and weights: point 24, and wordshapes.ribbons."""

import unittest
from collections import Counter
from itertools import permutations
from math import factorial
from random import Random

from tests import brute, brute_sums
from tests.wrong import look_for_errors, numbers, raised, same_by_name, shapes
from wordshapes.errors import InvalidNumber, InvalidShape, UnlikeSizes
from wordshapes.growths import growth_count
from wordshapes.ribbons import center, character, cycle_weight, ribbons

SMALL = [shape for size in range(9) for shape in brute.parted(size)]
GREAT = [(20, 20), (40,), (1,) * 40, (9, 8, 7, 6, 4, 3, 2, 1), (12, 8, 6, 4, 3, 2, 2, 1, 1, 1), (6, 6, 6, 6, 6, 5, 5), (39, 1)]


class Ribbons(unittest.TestCase):
    def test_box_by_box(self):
        for shape in SMALL:
            for size in range(1, 10):
                wanted = brute_sums.ribbons(shape, size) if size <= sum(shape) else ()
                self.assertEqual(ribbons(shape, size), wanted)

    def test_great_shapes(self):
        for shape in GREAT:
            found = 0
            for size in range(1, 41):
                told = ribbons(shape, size)
                self.assertEqual(list(told), sorted(set(told)))
                found += len(told)
                for left, height in told:
                    self.look_at(shape, size, left, height)
            # Each box has just one ribbon, from the end of its row to the foot of its column.
            self.assertEqual(found, 40)

    def look_at(self, shape, size, left, height):
        lot = brute.boxes(shape) - brute.boxes(left)
        self.assertTrue(brute.is_shape(left))
        self.assertEqual([len(lot), sum(left) + size], [size, sum(shape)])
        self.assertTrue(brute_sums.hangs_together(lot))
        self.assertFalse([1 for row, column in lot if (row + 1, column + 1) in lot])
        self.assertEqual(height, len({row for row, _ in lot}) - 1)

    def test_forty_boxes(self):
        self.assertEqual([ribbons((40,), 40), ribbons((1,) * 40, 40), ribbons((), 40)], [(((), 0),), (((), 39),), ()])
        self.assertEqual(ribbons((40,), 39), (((1,), 0),))

    def test_by_name(self):
        same_by_name(self, ribbons, shape=(4, 3, 1), size=2)
        same_by_name(self, center, shape=(4, 3, 1), size=2)


class Characters(unittest.TestCase):
    def test_plain_recursion(self):
        for size in range(8):
            for shape in brute.parted(size):
                for cycle in brute.parted(size):
                    self.assertEqual(character(shape, cycle), brute_sums.character(shape, cycle))

    def test_sums_over_all_cycle_shapes(self):
        for size in range(9):
            every = brute.parted(size)
            for shape in every:
                for other in every:
                    wanted = 1 if shape == other else 0
                    parts = [character(shape, cycle) * character(other, cycle) * self.share(cycle) for cycle in every]
                    self.assertEqual(sum(parts), wanted * factorial(size))

    def share(self, cycle):
        """How many orders have these cycles."""
        return factorial(sum(cycle)) // cycle_weight(cycle)

    def test_sums_over_all_shapes(self):
        for size in range(9):
            every = brute.parted(size)
            for cycle in every:
                for other in every:
                    wanted = cycle_weight(cycle) if cycle == other else 0
                    self.assertEqual(sum(character(shape, cycle) * character(shape, other) for shape in every), wanted)

    def test_one_row_and_one_column(self):
        for size in range(13):
            for cycle in brute.parted(size):
                sign = (-1) ** (size - len(cycle))
                self.assertEqual(character((size,) if size else (), cycle), 1)
                self.assertEqual(character((1,) * size, cycle), sign)

    def test_forty_boxes(self):
        self.assertEqual(character((20, 20), (1,) * 40), growth_count((20, 20)))
        for shape in GREAT:
            self.assertEqual(character(shape, (1,) * 40), growth_count(shape))
            self.assertEqual(character(shape, (40,)), (-1) ** (len(shape) - 1) if shape[1:2] in ((), (1,)) else 0)
        self.assertEqual([character((40,), (20, 10, 10)), character((1,) * 40, (20, 10, 10))], [1, -1])

    def test_flipped_shapes(self):
        for shape in GREAT:
            flat = tuple(sum(part > at for part in shape) for at in range(shape[0]))
            for cycle in ((1,) * 40, (2,) * 20, (3,) * 13 + (1,), (7, 6, 5, 5, 4, 4, 3, 2, 2, 1, 1), (20, 20), (39, 1)):
                self.assertEqual(character(flat, cycle), (-1) ** (40 - len(cycle)) * character(shape, cycle))

    def test_by_name(self):
        same_by_name(self, character, shape=(2, 2), cycle=(3, 1))


class Centers(unittest.TestCase):
    def test_whichever_ribbons_are_taken(self):
        for shape in SMALL:
            for size in range(1, 10):
                ends, waiting, seen = set(), [shape], set()
                while waiting:
                    now = waiting.pop()
                    lefts = [left for left, _ in brute_sums.ribbons(now, size)]
                    ends |= set() if lefts else {now}
                    waiting += [left for left in lefts if left not in seen]
                    seen |= set(lefts)
                self.assertEqual({center(shape, size)}, ends)

    def test_great_shapes(self):
        for shape in GREAT:
            for size in (1, 2, 3, 5, 12, 39, 40):
                for seed in range(3):
                    dice, now = Random(seed), shape
                    told = ribbons(now, size)
                    while told:
                        now = dice.choice(told)[0]
                        told = ribbons(now, size)
                    self.assertEqual(center(shape, size), now)

    def test_centers_that_stay(self):
        self.assertEqual([center((4, 3, 2, 1), 2), center((), 3), center((5,), 6)], [(4, 3, 2, 1), (), (5,)])


class Weights(unittest.TestCase):
    def test_orders_that_go_with_one(self):
        for size in range(7):
            cycles = Counter(brute_sums.cycle_shape(order) for order in permutations(range(1, size + 1)))
            for cycle in brute.parted(size):
                self.assertEqual(cycle_weight(cycle), factorial(size) // cycles[cycle])

    def test_forty_boxes(self):
        self.assertEqual(same_by_name(self, cycle_weight, cycle=(1,) * 40), factorial(40))
        self.assertEqual([cycle_weight((40,)), cycle_weight((20, 20)), cycle_weight(())], [40, 800, 1])
        self.assertEqual(cycle_weight((10, 10, 5, 5, 5, 3, 1, 1)), 100 * 2 * 125 * 6 * 3 * 2)


class Wrong(unittest.TestCase):
    def test_shapes_and_sizes(self):
        shape = ("shape", (3, 2), [(InvalidShape, shapes(40))])
        for action in (ribbons, center):
            look_for_errors(self, action, shape, ("size", 2, [(InvalidNumber, numbers(1, 40))]))
        look_for_errors(self, character, shape, ("cycle", (4, 1), [(InvalidShape, shapes(40))]))
        look_for_errors(self, cycle_weight, ("cycle", (4, 1), [(InvalidShape, shapes(40))]))

    def test_unlike_sizes_come_last(self):
        for shape, cycle in (((2, 1), (2,)), ((), (1,)), ((1,), ()), ((40,), (39,)), ((2, 1), (1, 1, 1, 1))):
            self.assertIs(raised(character, shape, cycle).__class__, UnlikeSizes)
        self.assertIs(raised(character, (2, 1), [2]).__class__, InvalidShape)
        self.assertIs(raised(character, (2, 1), (41,)).__class__, InvalidShape)


if __name__ == "__main__":
    unittest.main()
