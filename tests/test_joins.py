"""Join counts: point 27, and wordshapes.joins."""

import unittest
from itertools import product

from tests import brute, brute_sums
from tests.samples import LONG
from tests.test_ballots import held_by
from tests.wrong import NO_TABLES, look_for_errors, raised, same_by_name, shapes
from wordshapes.errors import InvalidShape, NotATable, NotInside, TooMany
from wordshapes.joins import join_count, joined, pairs_for, skew_terms
from wordshapes.mixtures import Mixture
from wordshapes.tables import Table

SMALL = [shape for size in range(5) for shape in brute.parted(size)]
GREAT = [
    ((6, 4, 2), ()), ((), (1,) * 12), ((3, 2, 1), (3, 2, 1)), ((4, 2), (3, 3)), ((2, 2, 1, 1), (3, 2, 1)), ((5, 1), (1, 1, 1, 1, 1, 1)), ((11,), (1,)),
]


def joins(first, second):
    """The join counts of two shapes, all ballot fillings being looked for."""
    told = {}
    for third in brute.parted(sum(first) + sum(second)):
        if brute.boxes(first) <= brute.boxes(third):
            told[third] = len(brute_sums.ballot_fillings(third, first, second))
    return tuple(sorted((third, many) for third, many in told.items() if many))


class Counts(unittest.TestCase):
    def test_small_shapes(self):
        for first, second in product(SMALL, SMALL):
            if sum(first) + sum(second) <= 6:
                wanted = joins(first, second)
                self.assertEqual(joined(first, second), wanted)
                for third in brute.parted(sum(first) + sum(second)):
                    self.assertEqual(join_count(first, second, third), dict(wanted).get(third, 0))

    def test_sizes_that_do_not_add_up(self):
        for first, second, third in product(SMALL, repeat=3):
            if sum(first) + sum(second) != sum(third):
                self.assertEqual(join_count(first, second, third), 0)
        self.assertEqual([join_count((12,), (12,), (12,)), join_count((12,), (), (12,)), join_count((), (), ())], [0, 1, 1])

    def test_first_and_second_exchanged(self):
        for first, second in GREAT + list(product(SMALL, SMALL)):
            self.assertEqual(joined(first, second), joined(second, first))
            for third, many in joined(first, second):
                self.assertEqual([join_count(first, second, third), join_count(second, first, third)], [many, many])

    def test_products_of_mixtures(self):
        for first, second in product(SMALL, SMALL):
            made = Mixture(((first, (1, 1)),)) * Mixture(((second, (1, 1)),))
            self.assertEqual(made.terms, tuple((third, (many, 1)) for third, many in joined(first, second)))

    def test_as_many_standard_tables(self):
        for first, second in GREAT:
            size = sum(first)
            ways = 1
            for at in range(size):
                ways = ways * (12 - at) // (at + 1)
            wanted = brute.standard_count(first) * brute.standard_count(second) * ways
            told = joined(first, second)
            self.assertEqual(sum(many * brute.standard_count(third) for third, many in told), wanted)
            self.assertEqual([third for third, _ in told], sorted({third for third, _ in told}))

    def test_twelve_boxes_and_thirteen(self):
        self.assertEqual(joined((12,), ()), (((12,), 1),))
        told = dict(joined((3, 2, 1), (3, 2, 1)))
        self.assertEqual([told[4, 3, 2, 2, 1], told[4, 3, 3, 1, 1], told[4, 4, 4], len(told)], [4, 3, 1, 34])
        for first, second in (((12,), (1,)), ((1,), (12,)), ((7,), (6,)), ((12,), (12,)), ((1,) * 12, (1,))):
            error = raised(joined, first, second)
            self.assertEqual([error.__class__, error.limit], [TooMany, 12])

    def test_skew_terms(self):
        for size in range(7):
            for outer in brute.parted(size):
                for inner in held_by(outer):
                    told = skew_terms(outer, inner)
                    wanted = [(second, join_count(inner, second, outer)) for second in brute.parted(size - sum(inner))]
                    self.assertEqual(told, tuple(sorted(pair for pair in wanted if pair[1])))
                    for second, many in told:
                        self.assertEqual(len(brute_sums.ballot_fillings(outer, inner, second)), many)

    def test_skew_terms_of_great_shapes(self):
        for outer in ((5, 4, 2, 1), (4, 4, 4), (1,) * 12, (12,)):
            self.assertEqual([skew_terms(outer, ()), skew_terms(outer, outer)], [((outer, 1),), (((), 1),)])
        for inner in held_by((4, 3, 2, 1)):
            for second, many in skew_terms((4, 3, 2, 1), inner):
                self.assertEqual(join_count(second, inner, (4, 3, 2, 1)), many)

    def test_not_inside(self):
        for outer, inner in (((2, 1), (3,)), ((), (1,)), ((3,), (1, 1)), ((4, 1), (2, 2)), ((2,), (2, 1))):
            self.assertIs(raised(skew_terms, outer, inner).__class__, NotInside)
            self.assertEqual(join_count(inner, (), outer), 0)

    def test_by_name(self):
        same_by_name(self, join_count, first=(2, 1), second=(2, 1), third=(3, 2, 1))
        same_by_name(self, joined, first=(2, 1), second=(1, 1))
        same_by_name(self, skew_terms, outer=(3, 2), inner=(2,))
        same_by_name(self, pairs_for, table=Table(((1, 2), (3,))), first=(2,), second=(1,))


class Pairs(unittest.TestCase):
    def test_products_of_all_pairs_of_small_tables(self):
        tables = {shape: [Table(rows) for rows in brute.tables(shape, 3)] for size in range(4) for shape in brute.parted(size)}
        for first, second in product(tables, tables):
            found = {}
            for left, right in product(tables[first], tables[second]):
                rows = brute.table_of(left.word + right.word)
                found.setdefault(rows, []).append((left.rows, right.rows))
            for third in brute.parted(sum(first) + sum(second)):
                for rows in brute.tables(third, 3) if sum(third) < 6 else list(found)[::5]:
                    told = pairs_for(Table(rows), first, second)
                    self.assertEqual([(left.rows, right.rows) for left, right in told], sorted(found.get(rows, [])))

    def test_long_tables(self):
        for word in LONG:
            table = Table.of(word)
            for first, second in GREAT:
                told = pairs_for(table, first, second)
                self.assertEqual(len(told), join_count(first, second, table.shape))
                keys = [(left.rows, right.rows) for left, right in told]
                self.assertEqual(keys, sorted(set(keys)))
                for left, right in told:
                    self.assertEqual([left.shape, right.shape, left.times(right)], [first, second, table])

    def test_several_pairs_for_twelve_boxes(self):
        for table in (Table(((1, 1, 1, 1), (2, 2, 2), (3, 3), (4, 4), (5,))), Table(((1, 3, 5, 9), (2, 4, 8), (6, 7), (10, 11), (12,)))):
            told = pairs_for(table, (3, 2, 1), (3, 2, 1))
            self.assertEqual([left.times(right) for left, right in told], [table] * 4)
            self.assertEqual(len({(left.rows, right.rows) for left, right in told}), 4)

    def test_no_pairs(self):
        table = Table(((1, 2), (3,)))
        for first, second in (((), ()), ((2,), ()), ((3,), ()), ((1, 1, 1), ()), ((2, 1), (1,)), ((), (3,)), ((12,), (12,))):
            self.assertEqual(pairs_for(table, first, second), ())
        self.assertEqual([pairs_for(table, (2, 1), ()), pairs_for(table, (), (2, 1))], [((table, Table(())),), ((Table(()), table),)])
        self.assertEqual(pairs_for(Table(()), (), ()), ((Table(()), Table(())),))


class Wrong(unittest.TestCase):
    def test_shapes(self):
        wrong = [(InvalidShape, shapes(12))]
        first, second = ("first", (2, 1), wrong), ("second", (1, 1), wrong)
        look_for_errors(self, join_count, first, second, ("third", (3, 2), wrong))
        look_for_errors(self, joined, first, second)
        look_for_errors(self, skew_terms, ("outer", (3, 2), wrong), ("inner", (2,), wrong))
        look_for_errors(self, pairs_for, ("table", Table(((1, 2), (3,))), [(NotATable, NO_TABLES)]), first, second)

    def test_what_comes_last(self):
        self.assertIs(raised(joined, (12,), [1]).__class__, InvalidShape)
        self.assertIs(raised(skew_terms, (1,), (13,)).__class__, InvalidShape)


if __name__ == "__main__":
    unittest.main()
