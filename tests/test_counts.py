"""Counts: points 7, 8, 10, 15, 23 and 25, and wordshapes.counts."""

import unittest
from itertools import permutations, product

from tests import brute, brute_sums
from tests.wrong import AMOUNTS, HUGE, NO_NUMBERS, look_for_errors, numbers, raised, same_by_name, shapes
from wordshapes.counts import letter_count, margin_count, own_inverse_count, table_count, tables_with, zero_one_count
from wordshapes.errors import InvalidAmounts, InvalidNumber, InvalidShape, TooMany
from wordshapes.tables import Table

SMALL = [shape for size in range(7) for shape in brute.parted(size)]
MARGINS = [value for long in range(4) for value in product(range(4), repeat=long) if sum(value) <= 4]
# What are amounts, but no sums of rows or columns.
TOO_GREAT = [(1,) * 7, (0,) * 7, (13,), (12, 1), (6, 6, 1), (HUGE,), (0, HUGE), (3, 3, 3, 3, 3), (0,) * 12]


class Tables(unittest.TestCase):
    def test_small_shapes(self):
        for shape in SMALL:
            found = {}
            for rows in brute.tables(shape, 4):
                found.setdefault(brute_sums.amounts_of(rows, 4), []).append(rows)
            for amounts in product(range(4), repeat=4):
                wanted = tuple(Table(rows) for rows in sorted(found.get(amounts, [])))
                self.assertEqual(table_count(shape, amounts), len(wanted))
                self.assertEqual(tables_with(shape, amounts), wanted)

    def test_standard_tables(self):
        for shape in SMALL + [(4, 3), (3, 2, 2), (4, 2, 1, 1)]:
            wanted = tuple(Table(rows) for rows in sorted(brute.standard_tables(shape)))
            self.assertEqual(tables_with(shape, (1,) * sum(shape)), wanted)
            self.assertEqual(table_count(shape, (1,) * sum(shape)), len(wanted))

    def test_noughts_among_the_amounts(self):
        self.assertEqual([table.text for table in tables_with((2, 1), (0, 1, 0, 2, 0))], ["2.4/4"])
        self.assertEqual([table_count((2, 1), (0, 1, 0, 2, 0)), table_count((2, 1), (0,) * 9 + (1, 1, 1))], [1, 2])
        self.assertEqual([table_count((), (0, 0)), tables_with((), ()), tables_with((), (0,) * 12)], [1, (Table(()),), (Table(()),)])
        self.assertEqual([table.text for table in tables_with((2,), (0,) * 10 + (1, 1))], ["11.12"])

    def test_another_sum(self):
        for shape, amounts in (((2, 1), ()), ((), (1,)), ((2, 1), (2, 2)), ((2, 1), (1, 1)), ((2, 1), (HUGE,)), ((2, 1), (1, HUGE))):
            self.assertEqual([table_count(shape, amounts), tables_with(shape, amounts)], [0, ()])

    def test_the_order_of_the_amounts_does_not_matter(self):
        for amounts in sorted(set(permutations((3, 2, 2, 0, 1)))):
            self.assertEqual(table_count((4, 3, 1), amounts), table_count((4, 3, 1), (3, 2, 2, 1)))

    def test_forty_boxes(self):
        self.assertEqual(table_count((20, 20), (20, 20)), 1)
        self.assertEqual(table_count((21, 19), (20, 20)), 1)
        self.assertEqual([table_count((21, 19), (20, 10, 10)), table_count((30, 10), (20, 10, 10))], [2, 11])
        self.assertEqual(table_count((40,), (4, 0, 30, 6)), 1)
        self.assertEqual(table_count((10, 10, 10, 10), (10, 10, 10, 10)), 1)
        self.assertEqual(table_count((1,) * 40, (4,) * 10), 0)
        amounts = (4, 4, 4, 4, 3, 3, 3, 3, 3, 3, 3, 3)
        self.assertEqual(table_count((9, 8, 7, 6, 4, 3, 2, 1), amounts), table_count((9, 8, 7, 6, 4, 3, 2, 1), amounts[::-1]))
        self.assertEqual(table_count((38, 2), (1, 1) + (38,)), 1)

    def test_2000_tables_and_more(self):
        told = tables_with((4, 3, 3, 1, 1), (2,) + (1,) * 10)
        self.assertEqual(len(told), 1953)
        self.assertEqual([table.rows for table in told], sorted({table.rows for table in told}))
        for table in told[::100]:
            self.assertEqual([table.shape, table.amounts], [(4, 3, 3, 1, 1), (2,) + (1,) * 10])
        for shape, amounts in (((6, 3, 1, 1, 1), (2,) + (1,) * 10), ((5, 4, 2, 1), (1,) * 12), ((4, 3, 2, 1, 1, 1), (1,) * 12)):
            self.assertGreater(table_count(shape, amounts), 2000)
            error = raised(tables_with, shape, amounts)
            self.assertEqual([error.__class__, error.limit], [TooMany, 2000])

    def test_by_name(self):
        for action in (table_count, tables_with):
            same_by_name(self, action, shape=(3, 1), amounts=(1, 1, 2))


class Letters(unittest.TestCase):
    def test_small_shapes(self):
        for shape in SMALL:
            for most in range(1, 5):
                self.assertEqual(letter_count(shape, most), len(brute.tables(shape, most)))

    def test_forty_boxes_and_letters(self):
        self.assertEqual([letter_count((1,) * 40, 40), letter_count((1,) * 40, 39), letter_count((40,), 1)], [1, 0, 1])
        self.assertEqual([letter_count((40,), 2), letter_count((20, 20), 2), letter_count((), 40)], [41, 1, 1])
        self.assertEqual([letter_count((1,), 40), letter_count((2,), 40), letter_count((1, 1), 40)], [40, 820, 780])
        self.assertEqual(letter_count((21, 19), 2), 3)

    def test_sums_of_amounts(self):
        for shape in ((5, 3, 3, 1), (12,), (4, 4, 4), (20, 13, 7)):
            size = sum(shape)
            wanted = sum(table_count(shape, (a, b, size - a - b)) for a in range(size + 1) for b in range(size + 1 - a))
            self.assertEqual(letter_count(shape, 3), wanted)

    def test_by_name(self):
        same_by_name(self, letter_count, shape=(3, 1), most=4)


class Margins(unittest.TestCase):
    def test_small_matrices(self):
        for rows in MARGINS:
            for columns in MARGINS:
                if len(rows) * len(columns) <= 4 or sum(rows) != sum(columns):
                    self.look_at(rows, columns)

    def look_at(self, rows, columns):
        if sum(rows) == sum(columns):
            wanted = [brute_sums.matrices(rows, columns, 4), brute_sums.matrices(rows, columns, 1)]
        else:
            wanted = [0, 0]
        self.assertEqual([margin_count(rows, columns), zero_one_count(rows, columns)], wanted)

    def test_matrices_with_more_lines(self):
        for rows, columns in (((2, 1, 1), (1, 2, 1)), ((2, 2), (1, 1, 1, 1)), ((1, 1, 1), (2, 0, 1)), ((2, 1), (1, 0, 1, 1))):
            wanted = [brute_sums.matrices(rows, columns, 2), brute_sums.matrices(rows, columns, 1)]
            self.assertEqual([margin_count(rows, columns), zero_one_count(rows, columns)], wanted)

    def test_known_numbers(self):
        self.assertEqual([margin_count((1,) * 6, (1,) * 6), zero_one_count((1,) * 6, (1,) * 6)], [720, 720])
        self.assertEqual([margin_count((2,) * 3, (2,) * 3), zero_one_count((2,) * 3, (2,) * 3)], [21, 6])
        self.assertEqual([margin_count((2,) * 6, (2,) * 6), zero_one_count((2,) * 6, (2,) * 6)], [202410, 67950])
        self.assertEqual([margin_count((4,) * 3, (4,) * 3), margin_count((12,), (12,)), zero_one_count((12,), (12,))], [120, 1, 0])
        self.assertEqual([margin_count((6, 6), (6, 6)), margin_count((12,), (2,) * 6), zero_one_count((6, 6), (2,) * 6)], [7, 1, 1])

    def test_no_lines(self):
        self.assertEqual([margin_count((), ()), zero_one_count((), ()), margin_count((), (0, 0)), margin_count((0,), ())], [1] * 4)
        self.assertEqual([margin_count((), (1,)), zero_one_count((1,), ()), margin_count((1,), (0,))], [0] * 3)

    def test_sums_over_shapes(self):
        for rows, columns in (((3, 2, 2), (2, 2, 2, 1)), ((5, 0, 3), (1, 4, 3)), ((2, 1, 2, 1, 2), (3, 3, 2))):
            every = brute.parted(sum(rows))
            wanted = sum(table_count(shape, rows) * table_count(shape, columns) for shape in every)
            self.assertEqual(margin_count(rows, columns), wanted)
            flat = {shape: tuple(sum(part > at for part in shape) for at in range(shape[0])) for shape in every}
            wanted = sum(table_count(shape, rows) * table_count(flat[shape], columns) for shape in every)
            self.assertEqual(zero_one_count(rows, columns), wanted)

    def test_by_name(self):
        for action in (margin_count, zero_one_count):
            same_by_name(self, action, rows=(2, 1), columns=(1, 1, 1))


class OwnInverses(unittest.TestCase):
    def test_all_orders(self):
        for size in range(8):
            orders = permutations(range(size))
            wanted = sum(all(order[order[at]] == at for at in range(size)) for order in orders)
            self.assertEqual(own_inverse_count(size), wanted)

    def test_as_many_as_standard_tables(self):
        for size in (8, 12, 20):
            self.assertEqual(own_inverse_count(size), sum(brute.standard_count(shape) for shape in brute.parted(size)))

    def test_forty(self):
        wanted = 0
        for pairs in range(21):
            ways = 1
            for at in range(2 * pairs):
                ways *= 40 - at
            for at in range(1, pairs + 1):
                ways //= 2 * at
            wanted += ways
        self.assertEqual(same_by_name(self, own_inverse_count, size=40), wanted)


class Wrong(unittest.TestCase):
    def test_shapes_and_amounts(self):
        wrong = ("amounts", (1, 1, 1), [(InvalidAmounts, AMOUNTS)])
        look_for_errors(self, table_count, ("shape", (2, 1), [(InvalidShape, shapes(40))]), wrong)
        look_for_errors(self, tables_with, ("shape", (2, 1), [(InvalidShape, shapes(12))]), wrong)

    def test_too_many_comes_last(self):
        self.assertIs(raised(tables_with, (5, 4, 2, 1), [1] * 12).__class__, InvalidAmounts)
        self.assertIs(raised(tables_with, (5, 4, 2, 1, 1), (1,) * 12).__class__, InvalidShape)

    def test_letters(self):
        shape = ("shape", (2, 1), [(InvalidShape, shapes(40))])
        look_for_errors(self, letter_count, shape, ("most", 3, [(InvalidNumber, numbers(1, 40))]))
        look_for_errors(self, own_inverse_count, ("size", 7, [(InvalidNumber, NO_NUMBERS + [-1, 41, HUGE, -HUGE])]))

    def test_margins(self):
        wrong = [(InvalidAmounts, AMOUNTS + TOO_GREAT)]
        for action in (margin_count, zero_one_count):
            look_for_errors(self, action, ("rows", (2, 1), wrong), ("columns", (1, 1, 1), wrong))

    def test_unlike_sums_are_looked_at_last(self):
        self.assertIs(raised(margin_count, (1,), (13,)).__class__, InvalidAmounts)
        self.assertIs(raised(zero_one_count, (1,), (1,) * 7).__class__, InvalidAmounts)


if __name__ == "__main__":
    unittest.main()
