"""Pairs of tables: points 14 and 15, and wordshapes.pairs."""

import unittest
from itertools import combinations_with_replacement, permutations, product

from tests import brute
from tests.samples import LONG, MIDDLE, SHORT, TWELVE
from tests.wrong import (
    DEEP, HUGE, NO_TABLES, NO_TUPLES, TABLE, WORDS, Stranger, look_for_errors, numbers, raised, same_by_name,
)
from wordshapes.errors import (
    InvalidArray, InvalidNumber, InvalidRows, InvalidWord, NotATable, NotStandard, UnlikeShapes,
)
from wordshapes.pairs import array_of, array_of_matrix, exchanged, matrix_of, pair_of, pair_of_array, word_of
from wordshapes.tables import Table
from wordshapes.words import inverse

PAIRS = list(product(range(1, 4), repeat=2))
ARRAYS = [array for long in range(5) for array in combinations_with_replacement(PAIRS, long)]
LONG_ARRAYS = [tuple(sorted(zip(one, two))) for one, two in zip(TWELVE, TWELVE[1:])]

NO_ARRAYS = [value for value in NO_TUPLES if value is not TABLE] + [
    TABLE, (1,), (1, 1), ("11",), ((1,),), ((),), ((1, 1, 1),), ([1, 1],), ((1, 1), [1, 2]), [(1, 1)], ((0, 1),), ((1, 0),), ((13, 1),),
    ((1, 13),), ((True, 1),), ((1, True),), ((None, 1),), ((1, "1"),), ((1, (1,)),), ((HUGE, 1),), ((1, -HUGE),), ((1, 1), None),
    ((2, 1), (1, 2)), ((1, 2), (1, 1)), ((1, 1), (2, 1), (1, 3)), ((1, 1),) * 13, ((1, 1),) * 5000, ((1, Stranger()),), (Stranger(),),
    ({},), ({1: 1, 2: 2},), ((1j, 1),), ((1, 2), (1, True)), DEEP,
]
NO_MATRICES = [value for value in NO_TUPLES if value is not TABLE] + [
    TABLE, (), ((),), ((), ()), (1,), (1, 1), ((1,), (1, 1)), ((1, 1), (1,)), ((1, 0), ()), ((-1,),), ((1, -1),), ((True,),),
    ((0, False),), ((None,),), (("1",),), ("1",), ([1],), ((1,), [1]), [(1,)], (((1,),),), ((13,),), ((6, 6), (1, 0)), ((HUGE,),),
    ((-HUGE,),), ((HUGE, -HUGE),), ((0,) * 13,), ((0,),) * 13, ((0,) * 5000,), ((0,),) * 5000, (Stranger(),), ((Stranger(),),), ({},),
    ({0: 1},), (b"\x01",), ((1j,),), DEEP,
]


def grown(array):
    """Both tables of an array, box by box."""
    first, second = (), {}
    for upper, lower in array:
        first, box = brute.put(first, lower)
        second[box] = upper
    return first, tuple(tuple(second[row, at] for at in range(len(line))) for row, line in enumerate(first))


class Words(unittest.TestCase):
    def test_words_to_pairs_and_back(self):
        for word in SHORT + MIDDLE + TWELVE:
            first, second = same_by_name(self, pair_of, word=word)
            self.assertEqual((first.rows, second.rows), grown(tuple(enumerate(word, start=1))))
            self.assertTrue(second.standard)
            self.assertEqual(same_by_name(self, word_of, first=first, second=second), word)
            self.assertIsInstance(pair_of(word), tuple)

    def test_pairs_to_words_and_back(self):
        for size in range(6):
            for shape in brute.parted(size):
                for first in brute.tables(shape, 3):
                    for second in brute.standard_tables(shape):
                        word = word_of(Table(first), Table(second))
                        self.assertEqual([table.rows for table in pair_of(word)], [first, second])

    def test_inverses_have_the_tables_exchanged(self):
        for order in permutations(range(1, 6)):
            first, second = pair_of(order)
            self.assertEqual(pair_of(inverse(order)), (second, first))


class Arrays(unittest.TestCase):
    def test_arrays_to_pairs_and_back(self):
        for array in ARRAYS + LONG_ARRAYS:
            first, second = same_by_name(self, pair_of_array, array=array)
            self.assertEqual((first.rows, second.rows), grown(array))
            self.assertEqual(same_by_name(self, array_of, first=first, second=second), array)
            self.assertIsInstance(pair_of_array(array), tuple)

    def test_pairs_to_arrays_and_back(self):
        for size in range(5):
            for shape in brute.parted(size):
                fillings = [Table(rows) for rows in brute.tables(shape, 3)]
                for first, second in product(fillings, repeat=2):
                    array = array_of(first, second)
                    self.assertEqual(array, tuple(sorted(array)))
                    self.assertEqual(pair_of_array(array), (first, second))

    def test_exchanged_arrays_have_the_tables_exchanged(self):
        for array in ARRAYS + LONG_ARRAYS:
            told = same_by_name(self, exchanged, array=array)
            self.assertEqual(told, tuple(sorted((lower, upper) for upper, lower in array)))
            self.assertEqual(exchanged(told), array)
            self.assertEqual(pair_of_array(told), pair_of_array(array)[::-1])

    def test_words_are_arrays(self):
        for word in TWELVE:
            self.assertEqual(pair_of_array(tuple(enumerate(word, start=1))), pair_of(word))


class Matrices(unittest.TestCase):
    def test_arrays_to_matrices_and_back(self):
        for array in ARRAYS + LONG_ARRAYS:
            rows = max([upper for upper, _ in array], default=1)
            columns = max([lower for _, lower in array], default=1)
            for more_rows, more_columns in ((0, 0), (1, 0), (0, 2), (12 - rows, 12 - columns)):
                self.look_at(array, min(rows + more_rows, 12), min(columns + more_columns, 12))

    def look_at(self, array, rows, columns):
        matrix = same_by_name(self, matrix_of, array=array, rows=rows, columns=columns)
        self.assertEqual(matrix, tuple(
            tuple(array.count((upper, lower)) for lower in range(1, columns + 1)) for upper in range(1, rows + 1)
        ))
        self.assertEqual(same_by_name(self, array_of_matrix, matrix=matrix), array)

    def test_matrices_to_arrays_and_back(self):
        for numbers_of in product(range(3), repeat=6):
            matrix = (numbers_of[:2], numbers_of[2:4], numbers_of[4:])
            array = array_of_matrix(matrix)
            self.assertEqual(len(array), sum(numbers_of))
            self.assertEqual(matrix_of(array, 3, 2), matrix)

    def test_rows_and_columns_of_zeros(self):
        empty = ((0, 0, 0), (0, 0, 0))
        self.assertEqual([array_of_matrix(empty), matrix_of((), 2, 3), matrix_of((), 1, 1)], [(), empty, ((0,),)])
        sparse = ((0, 0, 0), (0, 2, 0), (0, 0, 0), (0, 1, 0))
        self.assertEqual(array_of_matrix(sparse), ((2, 2), (2, 2), (4, 2)))
        self.assertEqual(matrix_of(((2, 2), (2, 2), (4, 2)), 4, 3), sparse)
        self.assertEqual(array_of_matrix(((0,) * 12,) * 12), ())
        self.assertEqual(array_of_matrix(((0,) * 11 + (12,),) + ((0,) * 12,) * 11), ((1, 12),) * 12)

    def test_the_sum_of_a_matrix(self):
        self.assertEqual(array_of_matrix(((12,),)), ((1, 1),) * 12)
        self.assertIs(raised(array_of_matrix, ((13,),)).__class__, InvalidRows)
        self.assertIs(raised(array_of_matrix, ((6, 6), (0, 1))).__class__, InvalidRows)


class Wrong(unittest.TestCase):
    def test_words(self):
        look_for_errors(self, pair_of, ("word", LONG[0], [(InvalidWord, WORDS)]))

    def test_tables(self):
        one, two = Table(((5, 5), (6,))), Table(((1, 3), (2,)))
        wrong = [(NotATable, NO_TABLES)]
        for action in (word_of, array_of):
            look_for_errors(self, action, ("first", one, wrong), ("second", two, wrong))

    def test_unlike_shapes_come_last(self):
        three, flat, bent = Table(((1, 1), (2,))), Table(((1, 2, 3),)), Table(((1, 1), (3,)))
        for action in (word_of, array_of):
            for first, second in ((three, flat), (flat, three), (three, Table(())), (Table(()), flat)):
                self.assertIs(raised(action, first, second).__class__, UnlikeShapes)
            self.assertIs(raised(action, three, flat.rows).__class__, NotATable)
            self.assertIs(raised(action, three.rows, flat).given, three.rows)
        self.assertIs(raised(word_of, flat, bent).__class__, UnlikeShapes)

    def test_second_tables_that_are_not_standard(self):
        for rows in (((1, 1), (2,)), ((1, 2), (2,)), ((1, 2), (4,)), ((2, 3), (4,))):
            self.assertIs(raised(word_of, Table(((1, 2), (3,))), Table(rows)).__class__, NotStandard)
            self.assertIsNone(raised(array_of, Table(((1, 2), (3,))), Table(rows)))

    def test_arrays(self):
        wrong = [(InvalidArray, NO_ARRAYS)]
        for action in (pair_of_array, exchanged):
            look_for_errors(self, action, ("array", ((1, 1), (1, 1), (12, 12)), wrong))
            self.assertIsNone(raised(action, ((1, 12),) * 12))
        array = ("array", ((1, 3), (2, 1)), wrong)
        rows = ("rows", 2, [(InvalidNumber, numbers(2, 12) + [1])])
        columns = ("columns", 3, [(InvalidNumber, numbers(3, 12) + [1, 2])])
        look_for_errors(self, matrix_of, array, rows, columns)
        look_for_errors(
            self, matrix_of, ("array", (), wrong),
            ("rows", 1, [(InvalidNumber, numbers(1, 12))]), ("columns", 12, [(InvalidNumber, numbers(1, 12))]),
        )

    def test_matrices(self):
        look_for_errors(self, array_of_matrix, ("matrix", ((0, 1), (2, 0)), [(InvalidRows, NO_MATRICES)]))


if __name__ == "__main__":
    unittest.main()
