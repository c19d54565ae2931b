"""Patterns: points 37 and 38, and wordshapes.patterns."""

import unittest

from tests import brute, brute_more
from tests.samples import TWELVE
from tests.wrong import NO_TABLES, PATTERNS, look_for_errors, numbers, raised, same_by_name, shapes
from wordshapes.errors import InvalidNumber, InvalidPattern, InvalidRow, InvalidShape, NotATable, TooMany, UnlikeSizes
from wordshapes.patterns import is_pattern, pattern_count, pattern_of, pattern_sum, pattern_toggled, patterns, table_of_pattern
from wordshapes.tables import Table
from wordshapes.turns import toggled

SMALL = [Table(rows) for size in range(5) for shape in brute.parted(size) for rows in brute.tables(shape, 3)]
GREAT = [Table(brute.table_of(word)) for word in TWELVE]


def greatest(table):
    return max(table.word, default=1)


class Both(unittest.TestCase):
    def test_patterns_of_tables_and_back(self):
        for table in SMALL + GREAT:
            for most in range(greatest(table), 13):
                told = pattern_of(table, most)
                self.assertEqual(told, brute_more.pattern_of(table.rows, most))
                self.assertIs(is_pattern(told), True)
                self.assertEqual(table_of_pattern(told), table)

    def test_the_empty_table(self):
        for most in range(1, 13):
            zeros = tuple((0,) * many for many in range(1, most + 1))
            self.assertEqual([pattern_of(Table(()), most), table_of_pattern(zeros)], [zeros, Table(())])

    def test_unlike_patterns_for_unlike_tables(self):
        for shape in brute.parted(4):
            told = {pattern_of(Table(rows), 4) for rows in brute.tables(shape, 4)}
            self.assertEqual(len(told), len(brute.tables(shape, 4)))

    def test_by_place_and_by_name(self):
        same_by_name(self, pattern_of, table=Table(((1, 1, 3), (2,))), most=4)
        same_by_name(self, table_of_pattern, pattern=((2,), (3, 1)))


class Told(unittest.TestCase):
    def test_small_triangles(self):
        """All triangles of three rows with small numbers, looked at number by number."""
        for a in range(3):
            for b in brute.words(2, 4):
                for c in brute.words(3, 4):
                    value = ((a,), tuple(x - 1 for x in b), tuple(x - 1 for x in c))
                    self.assertIs(is_pattern(value), self.keeps_bounds(value))

    def keeps_bounds(self, value):
        for i in range(3):
            for j in range(i + 1):
                here = value[i][j]
                if j and here > value[i][j - 1]:
                    return False
                if i < 2 and not value[i + 1][j] >= here >= value[i + 1][j + 1]:
                    return False
        return True

    def test_twelve_and_thirteen(self):
        self.assertIs(is_pattern(((12,),)), True)
        self.assertIs(is_pattern(((6,), (6, 6))), True)
        self.assertIs(is_pattern(tuple((1,) * many for many in range(1, 13))), True)
        self.assertIs(is_pattern(((7,), (7, 6))), False)
        self.assertIs(is_pattern(((13,),)), False)

    def test_what_is_no_pattern(self):
        for value in PATTERNS:
            self.assertIs(is_pattern(value), False, value.__class__)
        same_by_name(self, is_pattern, value=((2,), (3, 1)))


class Toggling(unittest.TestCase):
    def test_toggled_tables(self):
        for table in SMALL + GREAT:
            for most in sorted({greatest(table), min(12, greatest(table) + 2), 12}):
                pattern = pattern_of(table, most)
                for k in range(1, most):
                    told = pattern_toggled(pattern, k)
                    self.assertEqual(told, pattern_of(toggled(table, k), most))
                    self.assertEqual(pattern_toggled(told, k), pattern)

    def test_one_row_has_nothing_to_toggle(self):
        for row in (0, 1, 2, -1):
            self.assertIs(raised(pattern_toggled, ((3,),), row).__class__, InvalidRow)

    def test_by_place_and_by_name(self):
        same_by_name(self, pattern_toggled, pattern=((2,), (2, 1), (3, 1, 0)), row=2)


class Sums(unittest.TestCase):
    def test_tables_with_the_letters_of_both(self):
        some = [table for table in SMALL if table.word][::5]
        for table in some + GREAT[:20]:
            for other in some:
                if len(table.word) + len(other.word) <= 12:
                    self.look_at(table, other, max(greatest(table), greatest(other), 3))

    def look_at(self, table, other, most):
        told = pattern_sum(pattern_of(table, most), pattern_of(other, most))
        many = max(len(table.rows), len(other.rows))
        rows, beside = [list(some.rows) + [()] * (many - len(some.rows)) for some in (table, other)]
        wanted = tuple(tuple(sorted(row + more)) for row, more in zip(rows, beside))
        self.assertEqual(table_of_pattern(told).rows, wanted)
        self.assertEqual(told, pattern_sum(pattern_of(other, most), pattern_of(table, most)))

    def test_twelve_boxes_and_thirteen(self):
        six, seven = ((6,), (6, 0)), ((6,), (6, 1))
        self.assertEqual(pattern_sum(six, six), ((12,), (12, 0)))
        error = raised(pattern_sum, six, seven)
        self.assertEqual([error.__class__, error.limit], [TooMany, 12])
        for pattern, other in [(((0,), (6, 0)), ((0,), (7, 0))), (((0,), (12, 0)), ((0,), (1, 0))), (((0,), (1, 0)), ((0,), (12, 0)))]:
            self.assertIs(raised(pattern_sum, pattern, other).__class__, TooMany)
        # Only the last row tells how many boxes there are.
        self.assertEqual(pattern_sum(((12,), (12, 0)), ((0,), (0, 0))), ((12,), (12, 0)))

    def test_unlike_sizes_ahead_of_too_many(self):
        self.assertIs(raised(pattern_sum, ((12,),), ((12,), (12, 0))).__class__, UnlikeSizes)
        self.assertIs(raised(pattern_sum, ((12,),), ((12,),)).__class__, TooMany)

    def test_by_place_and_by_name(self):
        same_by_name(self, pattern_sum, pattern=((2,), (3, 1)), other=((1,), (1, 0)))


class All(unittest.TestCase):
    def test_all_patterns_of_small_shapes(self):
        for size in range(5):
            for shape in brute.parted(size):
                for most in range(1, 5):
                    wanted = sorted(brute_more.pattern_of(rows, most) for rows in brute.tables(shape, most))
                    self.assertEqual(patterns(shape, most), tuple(wanted))
                    self.assertEqual(pattern_count(shape, most), len(wanted))

    def test_patterns_of_twelve_rows(self):
        wanted = sorted(brute_more.pattern_of(rows, 12) for rows in brute.tables((1, 1), 12))
        self.assertEqual(patterns((1, 1), 12), tuple(wanted))
        self.assertEqual([patterns((), 12), pattern_count((1,) * 12, 12)], [(tuple((0,) * many for many in range(1, 13)),), 1])
        self.assertEqual(patterns((1,) * 12, 12), (tuple((1,) * many for many in range(1, 13)),))

    def test_more_rows_than_the_pattern_has(self):
        self.assertEqual([patterns((1, 1), 1), pattern_count((1, 1), 1), patterns((5, 4, 3), 2)], [(), 0, ()])

    def test_2000_patterns_and_more(self):
        self.assertEqual([pattern_count((3, 2, 1), 6), pattern_count((3, 2, 1), 7)], [896, 2352])
        self.assertEqual(len(patterns((3, 2, 1), 6)), 896)
        for shape, most in [((3, 2, 1), 7), ((12,), 12), ((6, 6), 5), ((2, 2, 2, 2, 2, 2), 12)]:
            self.assertGreater(pattern_count(shape, most), 2000)
            error = raised(patterns, shape, most)
            self.assertEqual([error.__class__, error.limit], [TooMany, 2000])

    def test_just_2000_patterns(self):
        told = patterns((6, 2, 2, 1), 5)
        self.assertEqual([len(told), len(set(told)), pattern_count((6, 2, 2, 1), 5), told], [2000, 2000, 2000, tuple(sorted(told))])
        self.assertEqual([pattern_count((5,), 10), raised(patterns, (5,), 10).__class__], [2002, TooMany])

    def test_by_place_and_by_name(self):
        same_by_name(self, patterns, shape=(2, 1), most=3)
        same_by_name(self, pattern_count, shape=(2, 1), most=3)


class Wrong(unittest.TestCase):
    def test_tables(self):
        most = ("most", 3, [(InvalidNumber, numbers(3, 12) + [1, 2])])
        look_for_errors(self, pattern_of, ("table", Table(((1, 1, 3), (2,))), [(NotATable, NO_TABLES)]), most)
        look_for_errors(self, pattern_of, ("table", Table(()), [(NotATable, NO_TABLES)]), ("most", 1, [(InvalidNumber, numbers(1, 12))]))

    def test_patterns(self):
        pattern = ("pattern", ((2,), (2, 1), (3, 1, 0)), [(InvalidPattern, PATTERNS)])
        look_for_errors(self, table_of_pattern, pattern)
        look_for_errors(self, pattern_toggled, pattern, ("row", 2, [(InvalidRow, numbers(1, 2))]))
        look_for_errors(self, pattern_sum, pattern, ("other", ((0,), (1, 0), (1, 0, 0)), [(InvalidPattern, PATTERNS)]))

    def test_shapes(self):
        for action in (pattern_count, patterns):
            look_for_errors(
                self, action, ("shape", (2, 1), [(InvalidShape, shapes(12))]), ("most", 1, [(InvalidNumber, numbers(1, 12))]))


if __name__ == "__main__":
    unittest.main()
