"""Tables: points 10, 11 and 12, and wordshapes.tables."""

import unittest
from itertools import permutations, product

from tests import brute
from tests.wrong import (
    LETTERS, NO_TABLES, ROWS, SKEW, WORDS, Stranger, look_for_errors, numbers, raised, same_by_name,
)
from wordshapes.errors import InvalidLetter, InvalidNumber, InvalidRow, InvalidRows, InvalidWord, NotATable, TooMany
from wordshapes.tables import Table

WORDS_TO_FIVE = [word for long in range(6) for word in brute.words(long, 3)]
LONG = [
    (12,) * 12, (1,) * 12, tuple(range(1, 13)), tuple(range(12, 0, -1)), (12, 1) * 6, (3, 12, 10, 1, 11, 2, 2, 9, 9, 10, 1, 12),
    (6, 7, 5, 8, 4, 9, 3, 10, 2, 11, 1, 12), (4, 4, 3, 3, 2, 2, 1, 1, 5, 5, 6, 6),
]
TABLES = [Table(rows) for size in range(5) for shape in brute.parted(size) for rows in brute.tables(shape, 3)]


def by_columns(rows, letter):
    """The rows of a table into which a letter has been put by columns, letter for letter."""
    letters = brute.letters_of(rows)
    column = 0
    while True:
        foot = len([1 for _, at in letters if at == column])
        greater = [row for row in range(foot) if letters[row, column] >= letter]
        row = min(greater, default=foot)
        letters[row, column], letter = letter, letters.get((row, column))
        if letter is None:
            break
        column += 1
    wide = {row: 1 + max(at for line, at in letters if line == row) for row, _ in letters}
    return tuple(tuple(letters[row, at] for at in range(wide[row])) for row in sorted(wide))


class Making(unittest.TestCase):
    def test_attributes(self):
        for size in range(6):
            for shape in brute.parted(size):
                for rows in brute.tables(shape, 3):
                    self.look_at(same_by_name(self, Table, rows=rows), rows, shape)

    def look_at(self, table, rows, shape):
        self.assertEqual([table.rows, table.shape], [rows, shape])
        letters = [letter for row in reversed(rows) for letter in row]
        self.assertEqual(table.word, tuple(letters))
        self.assertEqual(table.amounts, tuple(letters.count(k) for k in range(1, max(letters, default=0) + 1)))
        self.assertEqual(table.text, "/".join(".".join(map(str, row)) for row in rows) or "-")
        self.assertIs(table.standard, sorted(letters) == list(range(1, len(letters) + 1)))
        self.assertEqual(repr(table), "Table('" + table.text + "')")

    def test_just_the_rows_of_tables_are_taken(self):
        lines = [line for long in range(4) for line in brute.words(long, 3)]
        candidates = [rows for many in range(4) for rows in product(lines, repeat=many) if many < 3 or sum(map(len, rows)) < 5]
        for rows in candidates:
            if brute.is_skew((), rows):
                self.assertEqual(Table(rows).rows, rows)
            else:
                self.assertIs(raised(Table, rows).__class__, InvalidRows, rows)

    def test_standard(self):
        for rows in (((1, 2), (3,)), ((1, 3), (2,)), (), ((1,),), tuple((k,) for k in range(1, 13)), (tuple(range(1, 13)),)):
            self.assertIs(Table(rows).standard, True)
        for rows in (((2,),), ((1, 1),), ((1, 2), (4,)), ((1, 2), (2,)), (tuple(range(1, 12)) + (11,),)):
            self.assertIs(Table(rows).standard, False)

    def test_12_boxes_and_one_more(self):
        for rows in (((12,) * 12,), ((1,) * 6, (12,) * 6), tuple((k,) for k in range(1, 13)), ((1,) * 4, (2,) * 4, (3,) * 4)):
            self.assertEqual(len(Table(rows).word), 12)
            longer = (rows[0] + (12,),) + rows[1:]
            error = raised(Table, longer)
            self.assertIs(error.__class__, InvalidRows)
            self.assertIs(error.given, longer)

    def test_equality(self):
        table, like, other = Table(((1, 1), (2,))), Table(((1, 1), (2,))), Table(((1, 2), (2,)))
        self.assertTrue(table == like and not table != like)
        self.assertTrue(table != other and not table == other)
        for value in (table.rows, table.text, table.word, table.shape, repr(table), None, True, 1, 0, [], {}, SKEW, Table, object()):
            self.assertIs(table == value, False)
            self.assertIs(table != value, True)
        self.assertIs(table == Stranger(), False)
        self.assertIs(Table(()) == (), False)
        self.assertTrue(Table(()) == Table.of(()))
        self.assertTrue(Table(()) and table)


class Putting(unittest.TestCase):
    def test_table_of_a_word(self):
        for word in WORDS_TO_FIVE + LONG:
            table = same_by_name(self, Table.of, word=word)
            self.assertEqual(table.rows, brute.table_of(word))
            self.assertEqual(Table.of(table.word), table)

    def test_putting_by_rows(self):
        for table in TABLES:
            for letter in (1, 2, 3, 4, 12):
                rows, _ = brute.put(table.rows, letter)
                before = table.rows
                self.assertEqual(same_by_name(self, table.put, letter=letter).rows, rows)
                self.assertIs(table.rows, before)

    def test_putting_by_columns(self):
        for table in TABLES:
            for letter in (1, 2, 3, 4, 12):
                told = same_by_name(self, table.put_by_columns, letter=letter)
                self.assertEqual(told.rows, by_columns(table.rows, letter))
                self.assertEqual(told, Table.of((letter,) + table.word))

    def test_putting_by_columns_from_the_last_letter_on(self):
        for word in WORDS_TO_FIVE + LONG:
            table = Table(())
            for letter in reversed(word):
                table = table.put_by_columns(letter)
            self.assertEqual(table, Table.of(word))

    def test_taking_out_what_was_put(self):
        for table in TABLES:
            for letter in (1, 2, 3, 4):
                longer = table.put(letter)
                row = [row for row, wide in enumerate(longer.shape) if table.shape[row:row + 1] != (wide,)][0]
                self.assertEqual(same_by_name(self, longer.taken, row=row), (table, letter))

    def test_taking_out_of_each_corner_row(self):
        for table in TABLES + [Table.of(word) for word in LONG]:
            below = table.shape[1:] + (0,)
            for row, (wide, next_wide) in enumerate(zip(table.shape, below)):
                if wide > next_wide:
                    less, letter = table.taken(row)
                    self.assertEqual(less.put(letter), table)
                    self.assertEqual(sum(less.shape) + 1, sum(table.shape))
                    wanted = table.shape[:row] + ((wide - 1,) if wide > 1 else ()) + table.shape[row + 1:]
                    self.assertEqual(less.shape, wanted)

    def test_too_many(self):
        for word in LONG:
            table = Table.of(word)
            for action in (table.put, table.put_by_columns):
                self.assertEqual(raised(action, 1).limit, 12)
                self.assertIs(raised(action, 12).__class__, TooMany)
                self.assertIs(raised(action, 13).__class__, InvalidLetter)
            self.assertEqual(sum(Table.of(word[1:]).put(5).shape), 12)
            self.assertEqual(sum(Table.of(word[1:]).put_by_columns(5).shape), 12)


class Products(unittest.TestCase):
    def test_products(self):
        small = [table for table in TABLES if sum(table.shape) < 4]
        for table in small:
            for other in small:
                told = table.times(other)
                self.assertEqual(told.rows, brute.table_of(table.word + other.word))
        same_by_name(self, small[-1].times, other=small[-2])

    def test_products_with_the_empty_table(self):
        for table in TABLES + [Table.of(word) for word in LONG]:
            self.assertEqual(table.times(Table(())), table)
            self.assertEqual(Table(()).times(table), table)

    def test_products_letter_by_letter(self):
        for word in LONG:
            for at in range(13):
                self.assertEqual(Table.of(word[:at]).times(Table.of(word[at:])), Table.of(word))

    def test_too_many(self):
        one, two = Table.of((1,) * 7), Table.of((2,) * 6)
        self.assertEqual(raised(one.times, two).limit, 12)
        self.assertIs(raised(two.times, one).__class__, TooMany)
        self.assertIs(raised(Table.of((1,) * 12).times, Table.of((1,))).__class__, TooMany)
        self.assertIs(raised(Table.of((1,) * 12).times, ((1,),)).__class__, NotATable)

    def test_parts(self):
        for table in TABLES + [Table.of(word) for word in LONG]:
            for most in range(13):
                told = same_by_name(self, table.part, most=most)
                kept = {box: letter for box, letter in brute.letters_of(table.rows).items() if letter <= most}
                self.assertEqual(brute.letters_of(told.rows), kept)
                self.assertEqual(told.shape, brute.shape_of_boxes(kept))


class Wrong(unittest.TestCase):
    def test_rows(self):
        look_for_errors(self, Table, ("rows", ((1, 1), (2,)), [(InvalidRows, ROWS)]))

    def test_words(self):
        look_for_errors(self, Table.of, ("word", (2, 1, 2), [(InvalidWord, WORDS)]))

    def test_letters(self):
        for table in (Table(()), Table(((1, 1), (2,)))):
            for action in (table.put, table.put_by_columns):
                look_for_errors(self, action, ("letter", 12, [(InvalidLetter, LETTERS)]))

    def test_rows_to_take_from(self):
        table = Table(((1, 1, 1), (2, 2, 2), (3,)))
        look_for_errors(self, table.taken, ("row", 1, [(InvalidRow, numbers(1, 2))]))
        for value in numbers(1, 0):
            self.assertIs(raised(Table(()).taken, value).__class__, InvalidRow)
        look_for_errors(self, Table(((1,),)).taken, ("row", 0, [(InvalidRow, numbers(0, 0))]))

    def test_tables(self):
        look_for_errors(self, Table(((1,),)).times, ("other", Table(((1,),)), [(NotATable, NO_TABLES)]))

    def test_numbers(self):
        look_for_errors(self, Table(((1, 5), (2,))).part, ("most", 0, [(InvalidNumber, numbers(0, 12))]))


class Many(unittest.TestCase):
    def test_each_pair_of_tables_comes_from_one_order(self):
        for long in range(6):
            shapes = [Table.of(order).shape for order in permutations(range(1, long + 1))]
            for shape in set(shapes):
                self.assertEqual(shapes.count(shape), len(brute.standard_tables(shape)) ** 2)


if __name__ == "__main__":
    unittest.main()
