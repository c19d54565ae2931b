"""Growths: point 23, and wordshapes.growths."""

import unittest
from itertools import product

from tests import brute, brute_sums
from tests.wrong import HUGE, NO_NUMBERS, NO_TABLES, NO_TUPLES, look_for_errors, numbers, raised, same_by_name, shapes
from tests.wrong import Stranger
from wordshapes.errors import InvalidGrowth, InvalidIndex, InvalidShape, NotATable, NotStandard
from wordshapes.growths import growth_at, growth_count, growth_descents, growth_index, growth_of, table_of
from wordshapes.tables import Table

SMALL = [shape for size in range(8) for shape in brute.parted(size)]
GREAT = [
    (40,), (1,) * 40, (20, 20), (2,) * 20, (8, 8, 8, 8, 8), (9, 8, 7, 6, 4, 3, 2, 1), (10, 10, 10, 10), (39, 1), (13, 9, 7, 5, 3, 2, 1),
    (12, 8, 6, 4, 3, 2, 2, 1, 1, 1), (6, 6, 6, 6, 6, 6, 4), (4, 3, 2, 1), (5, 4, 2, 1), (6, 6),
]
# Nearly a growth, or not even that.
NO_GROWTHS = NO_TUPLES + [
    (1,), (0, 2), (0, 1, 1), (0, 0, 1, 2, 2), (0, 1, 2, 2), (2,), (-1,), (0, -1), (True,), (False,), (0, True), (0, False), (None,),
    (0, None), ("0",), (0, "1"), ((0,),), (0, (1,)), ((),), ([],), (0, [0]), (HUGE,), (0, HUGE), (0, -HUGE), (0, 0, 1, 1, 1), ({},),
    (1, 0), (1, 0, 0), (0, 1j), (Stranger(),), (0, Stranger()), ((((((((((0,),),),),),),),),),), Table(((1, 2), (3,))),
]


def is_growth(value):
    """Whether numbers are a growth, end by end, as the document says it."""
    for end in range(1, len(value) + 1):
        counts = [value[:end].count(index) for index in range(10)]
        if counts != sorted(counts, reverse=True):
            return False
    return True


class Growing(unittest.TestCase):
    def test_growths_and_standard_tables(self):
        for shape in SMALL:
            for rows in brute.standard_tables(shape):
                where = {letter: row for row, line in enumerate(rows) for letter in line}
                growth = growth_of(Table(rows))
                self.assertEqual(growth, tuple(where[letter] for letter in sorted(where)))
                self.assertEqual(table_of(growth), Table(rows))

    def test_what_is_a_growth(self):
        for long in range(6):
            for value in product(range(long + 1), repeat=long):
                if is_growth(value):
                    self.assertEqual(growth_of(table_of(value)), value)
                else:
                    for action in (table_of, growth_index, growth_descents):
                        error = raised(action, value)
                        self.assertIs(error.__class__, InvalidGrowth)
                        self.assertIs(error.given, value)

    def test_not_standard(self):
        for rows in (((1, 1),), ((2,),), ((1, 3),), ((1, 2), (2,)), ((1, 2), (4,)), ((12,),)):
            self.assertIs(raised(growth_of, Table(rows)).__class__, NotStandard)

    def test_twelve_boxes_and_thirteen(self):
        for growth in ((0,) * 12, tuple(range(12)), (0, 1) * 6, (0, 0, 1, 0, 1, 2, 0, 1, 2, 3, 3, 2)):
            self.assertEqual(growth_of(table_of(growth)), growth)
        for growth in ((0,) * 13, tuple(range(13)), (0, 1) * 20):
            self.assertIs(raised(table_of, growth).__class__, InvalidGrowth)
            self.assertIsNone(raised(growth_index, growth))
            self.assertIsNone(raised(growth_descents, growth))

    def test_by_name(self):
        same_by_name(self, growth_of, table=Table(((1, 3), (2,))))
        for action in (table_of, growth_index, growth_descents):
            same_by_name(self, action, growth=(0, 1, 0, 2))


class Counting(unittest.TestCase):
    def test_small_shapes(self):
        for shape in SMALL:
            self.assertEqual(growth_count(shape), len(brute_sums.growths(shape)))

    def test_great_shapes(self):
        for shape in GREAT:
            self.assertEqual(same_by_name(self, growth_count, shape=shape), brute.standard_count(shape))
        self.assertEqual([growth_count((20, 20)), growth_count((40,)), growth_count(())], [6564120420, 1, 1])


class Order(unittest.TestCase):
    def test_all_indexes_of_small_shapes(self):
        for shape in SMALL:
            wanted = brute_sums.growths(shape)
            self.assertEqual([growth_at(shape, index) for index in range(len(wanted))], wanted)
            self.assertEqual([growth_index(growth) for growth in wanted], list(range(len(wanted))))
            self.assertIs(raised(growth_at, shape, len(wanted)).__class__, InvalidIndex)

    def test_great_shapes(self):
        for shape in GREAT:
            many = brute.standard_count(shape)
            first = tuple(row for row, wide in enumerate(shape) for _ in range(wide))
            last = tuple(row for column in range(shape[0]) for row, wide in enumerate(shape) if wide > column)
            self.assertEqual([growth_at(shape, 0), growth_at(shape, many - 1)], [first, last])
            for index in sorted({0, 1 % many, many // 3, many // 2, many - 1}):
                growth = growth_at(shape, index)
                self.assertEqual(growth_index(growth), index)
                self.assertEqual(tuple(growth.count(row) for row in range(len(shape))), shape)
                self.assertTrue(is_growth(growth))
            for index in (-1, many, many + 1, HUGE):
                error = raised(growth_at, shape, index)
                self.assertEqual([error.__class__, error.given], [InvalidIndex, index])

    def test_neighbours_ascend(self):
        for shape in GREAT:
            many = brute.standard_count(shape)
            for index in sorted({0, many // 7, many // 2, many - 1}):
                near = [growth_at(shape, at) for at in range(index, min(index + 4, many))]
                self.assertEqual(near, sorted(set(near)))

    def test_by_name(self):
        same_by_name(self, growth_at, shape=(3, 2), index=4)


class Descents(unittest.TestCase):
    def test_small_shapes(self):
        for shape in SMALL:
            for rows in brute.standard_tables(shape):
                where = {letter: row for row, line in enumerate(rows) for letter in line}
                growth = tuple(where[letter] for letter in sorted(where))
                wanted = tuple(i for i in range(1, len(growth)) if where[i + 1] > where[i])
                self.assertEqual(growth_descents(growth), wanted)

    def test_forty_numbers(self):
        self.assertEqual(growth_descents((0, 1) * 20), tuple(range(1, 40, 2)))
        self.assertEqual(growth_descents(tuple(range(40))), tuple(range(1, 40)))
        self.assertEqual(growth_descents((0,) * 40), ())


class Wrong(unittest.TestCase):
    def test_tables(self):
        look_for_errors(self, growth_of, ("table", Table(((1, 2), (3,))), [(NotATable, NO_TABLES)]))

    def test_growths(self):
        look_for_errors(self, table_of, ("growth", (0, 1, 0), [(InvalidGrowth, NO_GROWTHS + [(0,) * 13, (0, 1) * 7])]))
        for action in (growth_index, growth_descents):
            wrong = NO_GROWTHS + [(0,) * 41, tuple(range(41)), (0,) * 5000]
            look_for_errors(self, action, ("growth", (0, 1, 0), [(InvalidGrowth, wrong)]))

    def test_shapes_and_indexes(self):
        shape = ("shape", (3, 2), [(InvalidShape, shapes(40))])
        look_for_errors(self, growth_count, shape)
        look_for_errors(self, growth_at, shape, ("index", 4, [(InvalidIndex, numbers(0, 4))]))
        look_for_errors(
            self, growth_at, ("shape", (), [(InvalidShape, shapes(40))]), ("index", 0, [(InvalidIndex, NO_NUMBERS + [1, -1])]))


if __name__ == "__main__":
    unittest.main()
