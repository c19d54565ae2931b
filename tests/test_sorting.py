"""Sorting: points 32 and 33, and wordshapes.sorting."""

import unittest
from collections import Counter
from itertools import permutations

from tests import brute, brute_more
from tests.samples import LONG, SHORT, orders
from tests.wrong import NO_TABLES, WORDS, look_for_errors, numbers, raised, same_by_name
from wordshapes.errors import (
    InvalidLetter, InvalidNumber, InvalidPlace, InvalidWord, NoMove, NotATable, NotReduced, NotStandard, TooMany, UnlikeShapes,
)
from wordshapes.sorting import (
    braided, braids, exchanged_at, inversion_count, is_reduced, order_by, order_mixture, reduced_count, reduced_rows, sorted_pair,
    sorted_row,
)
from wordshapes.tables import Table

SMALL = [order for size in range(6) for order in permutations(range(1, size + 1))]
NO_ORDERS = [(2,), (1, 1), (1, 3), (12,), (2, 2, 1), (1, 2, 3, 5), (1,) * 12, (12,) * 12]
DOWN = tuple(range(12, 0, -1))
# All words with letters up to 4 of up to six letters, and some with greater ones.
WORDS_OF_FOUR = [word for long in range(7) for word in brute.words(long, 4)]
LONG_ROWS = [
    (), (11,), (1, 2, 3, 4, 5, 6, 7, 8, 9, 10, 11), (11, 10, 9, 8, 7, 6, 5, 4, 3, 2, 1), (1, 3, 5, 7, 9, 11, 2, 4, 6, 8, 10, 1),
    (11, 9, 11, 7, 5, 3), (10, 11, 10), (11, 10, 11), (2, 1, 3, 2, 4, 3, 5, 4, 6, 5, 7, 6), (4, 3, 2, 1, 4, 3, 2, 4, 3, 4, 7, 9),
]


def many_inversions(many):
    """Orders of 12 letters with so many inversions."""
    found = []
    for seed in range(20):
        order = tuple(range(1, 13))
        for letter in [letter for word in orders(60, 11, seed + 50) for letter in word]:
            if brute_more.inversions(order) < many and order[letter - 1] < order[letter]:
                order = brute_more.exchange(order, letter)
        found.append(order)
    return found


class Orders(unittest.TestCase):
    def test_inversions(self):
        for order in SMALL + orders(20, 12, 3) + [DOWN]:
            self.assertEqual(inversion_count(order), brute_more.inversions(order))
        self.assertEqual([inversion_count(()), inversion_count((1,)), inversion_count(DOWN)], [0, 0, 66])

    def test_exchanged_at(self):
        for order in SMALL + orders(5, 12, 4):
            for letter in range(1, len(order)):
                self.assertEqual(exchanged_at(order, letter), brute_more.exchange(order, letter))
        self.assertEqual([exchanged_at((1, 2), 1), exchanged_at(DOWN, 11)], [(2, 1), DOWN[:10] + (1, 2)])

    def test_order_by(self):
        for row in WORDS_OF_FOUR[::5] + LONG_ROWS:
            for size in range(max(row, default=0) + 1, 13):
                self.assertEqual(order_by(row, size), brute_more.order_by(row, size))
        self.assertEqual([order_by((), 1), order_by((), 3), order_by((1, 1), 2)], [(1,), (1, 2, 3), (1, 2)])

    def test_by_place_and_by_name(self):
        same_by_name(self, inversion_count, order=(3, 1, 2))
        same_by_name(self, exchanged_at, order=(3, 1, 2), letter=2)
        same_by_name(self, order_by, row=(1, 2), size=4)


class Rows(unittest.TestCase):
    def test_reduced_rows_of_small_orders(self):
        for order in SMALL:
            wanted = brute_more.rows_by_order(len(order))[order]
            self.assertEqual(reduced_rows(order), tuple(wanted))
            self.assertEqual(reduced_count(order), len(wanted))

    def test_is_reduced(self):
        for row in WORDS_OF_FOUR + LONG_ROWS:
            wanted = brute_more.inversions(brute_more.order_by(row, 12)) == len(row)
            self.assertIs(is_reduced(row), wanted, row)

    def test_the_letter_12_is_in_no_reduced_row(self):
        for row in [(12,), (1, 12), (12, 1, 12), (11, 12), DOWN]:
            self.assertIs(is_reduced(row), False)

    def test_reduced_rows_of_long_orders(self):
        for order in [order for many in (4, 6) for order in many_inversions(many)[:4]]:
            told = reduced_rows(order)
            self.assertEqual([len(told), len(set(told)), list(told)], [brute_more.reduced_count(order)] * 2 + [sorted(told)])
            for row in told:
                self.assertEqual([brute_more.order_by(row, 12), len(row)], [order, brute_more.inversions(order)])

    def test_reduced_count(self):
        for many in (8, 11, 12):
            for order in many_inversions(many):
                self.assertEqual(brute_more.inversions(order), many)
                self.assertEqual(reduced_count(order), brute_more.reduced_count(order))
        wanted = {(4, 3, 2, 1): 16, (5, 4, 3, 2, 1): 768, (2, 1, 4, 3, 6, 5, 8, 7, 10, 9, 12, 11): 720}
        wanted[3, 2, 1, 6, 5, 4, 9, 8, 7, 12, 11, 10] = 5913600
        self.assertEqual({order: reduced_count(order) for order in wanted}, wanted)

    def test_none_and_one_letter(self):
        for order in ((), (1,), (1, 2, 3, 4, 5, 6, 7, 8, 9, 10, 11, 12)):
            self.assertEqual([reduced_rows(order), reduced_count(order)], [((),), 1])
            self.assertEqual(order_mixture(order).terms, (((), (1, 1)),))

    def test_twelve_inversions_and_more(self):
        told = (13, 12, *range(1, 12))
        for order in many_inversions(13) + [DOWN, (6, 5, 4, 3, 2, 1), (12, *range(3, 12), 1, 2)]:
            for action in (reduced_rows, reduced_count):
                error = raised(action, order)
                self.assertEqual([error.__class__, error.limit], [TooMany, 12])
        self.assertIs(raised(reduced_count, told).__class__, InvalidWord)

    def test_2000_rows_and_more(self):
        orders_told = [(3, 2, 1, 6, 5, 4, 9, 8, 7), (3, 2, 1, 5, 4, 8, 7, 6, 10, 9, 11, 12), (2, 3, 1, 5, 6, 4, 8, 9, 7, 11, 12, 10)]
        for order in orders_told:
            self.assertGreater(brute_more.reduced_count(order), 2000)
            error = raised(reduced_rows, order)
            self.assertEqual([error.__class__, error.limit], [TooMany, 2000])
        for order in [(5, 4, 3, 2, 1), (3, 2, 1, 5, 4, 7, 6, 9, 8, 10, 11, 12)]:
            self.assertEqual(len(reduced_rows(order)), brute_more.reduced_count(order))

    def test_by_place_and_by_name(self):
        same_by_name(self, is_reduced, row=(1, 2, 1))
        same_by_name(self, reduced_rows, order=(3, 2, 1))
        same_by_name(self, reduced_count, order=(3, 2, 1))


class Braids(unittest.TestCase):
    def test_braids_of_words(self):
        for row in SHORT + WORDS_OF_FOUR[::3] + LONG_ROWS + LONG:
            wanted = brute_more.braids(row)
            self.assertEqual(braids(row), tuple(sorted(wanted)))
            for place in range(len(row)):
                if place in wanted:
                    self.assertEqual(braided(row, place), wanted[place])
                    self.assertEqual(braided(wanted[place], place), row)
                else:
                    self.assertIs(raised(braided, row, place).__class__, NoMove)

    def test_from_each_reduced_row_to_each_other_one(self):
        for order in [order for order in SMALL if brute_more.reduced_count(order) < 800]:
            rows = reduced_rows(order)
            found, waiting = {rows[-1]}, [rows[-1]]
            while waiting:
                row = waiting.pop()
                for behind in [braided(row, place) for place in braids(row)]:
                    if behind not in found:
                        found.add(behind)
                        waiting.append(behind)
            self.assertEqual(found, set(rows))

    def test_by_place_and_by_name(self):
        same_by_name(self, braids, row=(1, 3, 2, 3))
        same_by_name(self, braided, row=(1, 3, 2, 3), place=1)


class SortedTables(unittest.TestCase):
    def rows(self):
        return [row for size in range(5) for rows in brute_more.rows_by_order(size).values() for row in rows] + [
            row for order, rows in brute_more.rows_by_order(5).items() for row in rows[::7]
        ] + [row for row in LONG_ROWS if is_reduced(row)]

    def test_sorted_pairs_and_back(self):
        for row in self.rows():
            first, second = sorted_pair(row)
            self.assertEqual((first.rows, second.rows), brute_more.sorted_pair(row))
            self.assertTrue(second.standard)
            self.assertEqual(sorted_row(first, second), row)

    def test_the_row_from_behind(self):
        for row in self.rows():
            self.assertEqual(sorted_pair(row[::-1])[0].rows, brute_more.columns(sorted_pair(row)[0].rows))

    def test_each_standard_table_is_a_second_one(self):
        for order in SMALL[:60] + [(5, 4, 3, 2, 1)]:
            rows = brute_more.rows_by_order(len(order))[order]
            firsts = {brute_more.sorted_pair(row)[0] for row in rows}
            told = set()
            for first in firsts:
                for second in brute.standard_tables(tuple(map(len, first))):
                    told.add(sorted_row(Table(first), Table(second)))
            self.assertEqual(sorted(told), rows)

    def test_tables_of_no_reduced_row(self):
        known = set()
        for rows in brute_more.rows_by_order(5).values():
            known |= {brute_more.sorted_pair(row) for row in rows if len(row) < 6}
        for size in range(6):
            for shape in brute.parted(size):
                for first in brute.tables(shape, 4):
                    for second in brute.standard_tables(shape):
                        self.look_at_pair(first, second, (first, second) in known)

    def look_at_pair(self, first, second, has_row):
        if has_row:
            self.assertEqual(brute_more.sorted_pair(sorted_row(Table(first), Table(second))), (first, second))
        else:
            self.assertIs(raised(sorted_row, Table(first), Table(second)).__class__, NotReduced)

    def test_long_tables_of_no_reduced_row(self):
        for word in LONG:
            table = Table.of(word)
            second = Table(brute.standard_tables(table.shape)[0])
            told = raised(sorted_row, table, second)
            if told is None:
                self.assertEqual(sorted_pair(sorted_row(table, second)), (table, second))
            else:
                self.assertIs(told.__class__, NotReduced)

    def test_words_that_are_no_reduced_rows(self):
        for row in [(1, 1), (12,), (1, 2, 1, 2), (2, 2), (1, 3, 1), (1,) * 12, (1, 2, 12)]:
            self.assertIs(raised(sorted_pair, row).__class__, NotReduced)

    def test_the_empty_row(self):
        self.assertEqual([sorted_pair(()), sorted_row(Table(()), Table(()))], [(Table(()), Table(())), ()])

    def test_by_place_and_by_name(self):
        same_by_name(self, sorted_pair, row=(2, 1, 2))
        same_by_name(self, sorted_row, first=Table(((1, 2), (2,))), second=Table(((1, 3), (2,))))


class Mixtures(unittest.TestCase):
    def look_at(self, order, rows):
        firsts = {brute_more.sorted_pair(row)[0] for row in rows}
        shapes = Counter(tuple(map(len, first)) for first in firsts)
        self.assertEqual(order_mixture(order).terms, tuple(sorted((shape, (many, 1)) for shape, many in shapes.items())))

    def test_all_first_sorted_tables(self):
        for order in [order for order in SMALL if brute_more.inversions(order) < 9]:
            self.look_at(order, brute_more.rows_by_order(len(order))[order])

    def test_long_orders(self):
        for order in many_inversions(5)[:6] + many_inversions(7)[:3] + [(2, 1, 4, 3, 6, 5, 8, 7, 10, 9, 12, 11)]:
            self.look_at(order, reduced_rows(order))

    def test_eight_inversions_and_more(self):
        for order in many_inversions(8):
            terms = order_mixture(order).terms
            self.assertEqual(sum(many * brute.standard_count(shape) for shape, (many, _) in terms), reduced_count(order))
        for order in many_inversions(9) + [DOWN]:
            error = raised(order_mixture, order)
            self.assertEqual([error.__class__, error.limit], [TooMany, 8])

    def test_by_place_and_by_name(self):
        same_by_name(self, order_mixture, order=(2, 1, 4, 3))


class Wrong(unittest.TestCase):
    def test_orders(self):
        order = ("order", (3, 1, 2), [(InvalidWord, WORDS)])
        for action in (inversion_count, reduced_rows, reduced_count, order_mixture):
            look_for_errors(self, action, order)
            for word in NO_ORDERS:
                self.assertIs(raised(action, word).__class__, NotStandard)
        look_for_errors(self, exchanged_at, order, ("letter", 2, [(InvalidLetter, numbers(1, 2))]))

    def test_no_order_is_told_last(self):
        for word in NO_ORDERS:
            self.assertIs(raised(exchanged_at, word, 0).__class__, InvalidLetter)
            self.assertIs(raised(exchanged_at, word, len(word)).__class__, InvalidLetter)
            if len(word) > 1:
                self.assertIs(raised(exchanged_at, word, 1).__class__, NotStandard)
        for order in ((), (1,)):
            self.assertIs(raised(exchanged_at, order, 1).__class__, InvalidLetter)

    def test_rows(self):
        row = ("row", (2, 1, 2), [(InvalidWord, WORDS)])
        for action in (is_reduced, braids, sorted_pair):
            look_for_errors(self, action, row)
        look_for_errors(self, order_by, row, ("size", 3, [(InvalidNumber, numbers(3, 12) + [1, 2])]))
        look_for_errors(self, order_by, ("row", (), [(InvalidWord, WORDS)]), ("size", 1, [(InvalidNumber, numbers(1, 12))]))
        look_for_errors(self, braided, row, ("place", 0, [(InvalidPlace, numbers(0, 2))]))
        for size in range(14):
            self.assertIs(raised(order_by, (12,), size).__class__, InvalidNumber)

    def test_tables(self):
        first = ("first", Table(((1, 2), (2,))), [(NotATable, NO_TABLES)])
        look_for_errors(self, sorted_row, first, ("second", Table(((1, 3), (2,))), [(NotATable, NO_TABLES)]))

    def test_unlike_shapes_then_not_standard_then_not_reduced(self):
        first = Table(((1, 1), (2,)))
        wanted = {((1, 1),): UnlikeShapes, ((1, 2),): UnlikeShapes, ((1, 1), (3,)): NotStandard, ((1, 2), (3,)): NotReduced}
        for second, error in wanted.items():
            self.assertIs(raised(sorted_row, first, Table(second)).__class__, error)


if __name__ == "__main__":
    unittest.main()
