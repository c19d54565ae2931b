"""Marks: points 34, 35 and 36, and wordshapes.marks."""

import unittest
from itertools import permutations

from tests import brute, brute_more
from tests.samples import LONG, MIDDLE, SHORT, TWELVE, scattered
from tests.wrong import AMOUNTS, WORDS, look_for_errors, raised, same_by_name, shapes
from wordshapes.errors import InvalidAmounts, InvalidShape, InvalidWord
from wordshapes.marks import charge, cocharge, mark_numbers, marks, rounds, row_weight, settled, standard_marks
from wordshapes.tables import Table

ALL = SHORT + MIDDLE + TWELVE
UNSETTLED = [(2,), (1, 2, 2), (2, 2, 1), (12,), (3, 1), (1, 3), (1, 1, 3), (11, 12), (2, 2, 1, 1, 3, 3, 3), (12,) * 12]


def ends_of(word):
    """All settled words in which a word ends, whichever letters are taken."""
    letters = brute_more.scarce(word)
    return {end for k in letters for end in ends_of(brute_more.mirrored(word, k))} if letters else {word}


def weight(parts):
    return sum(index * part for index, part in enumerate(parts))


class Settled(unittest.TestCase):
    def test_whichever_letters_are_taken(self):
        for word in SHORT + [(4,), (5, 5), (3, 4, 3, 4), (2, 4, 4), (5, 1, 5), (4, 4, 2), (5, 2, 3), (3, 3, 3, 2), (4, 1, 4, 2, 3)]:
            self.assertEqual({settled(word)}, ends_of(word))

    def test_long_words(self):
        for word in ALL:
            told = settled(word)
            self.assertEqual(told, brute_more.settled(word))
            self.assertEqual(brute_more.scarce(told), [])
            counts = sorted([word.count(k) for k in range(1, 13)], reverse=True)
            self.assertEqual([told.count(k) for k in range(1, 13)], counts)

    def test_settled_words_stay(self):
        for word in [(), (1,), (2, 1), (1, 1, 1), (3, 1, 1, 2), tuple(range(12, 0, -1)), (1, 2, 1, 2)]:
            self.assertEqual(settled(word), word)
        self.assertEqual([settled((12,)), settled((12, 12)), settled((12, 11))], [(1,), (1, 1), (2, 1)])


class Rounds(unittest.TestCase):
    def test_a_plain_walk(self):
        for word in [settled(word) for word in ALL]:
            wanted = brute_more.walk(word)
            self.assertEqual((rounds(word), marks(word)), wanted)
            self.assertEqual(sorted(place for lot in rounds(word) for place in lot), list(range(len(word))))

    def test_all_settled_words_of_five_letters(self):
        for word in [word for word in brute.words(5, 4) if not brute_more.scarce(word)]:
            self.assertEqual((rounds(word), marks(word)), brute_more.walk(word))

    def test_the_empty_word(self):
        self.assertEqual([rounds(()), marks(()), charge(()), cocharge(())], [(), (), 0, 0])

    def test_a_word_that_is_not_settled(self):
        for word in UNSETTLED:
            for action in (rounds, marks):
                error = raised(action, word)
                self.assertEqual([error.__class__, error.given], [InvalidWord, word])


class Charges(unittest.TestCase):
    def test_charge_and_cocharge(self):
        for word in ALL:
            end = brute_more.settled(word)
            told = charge(word)
            self.assertEqual(told, brute_more.charge(word))
            self.assertEqual(cocharge(word), weight([end.count(k) for k in range(1, 13)]) - told)
            self.assertGreaterEqual(cocharge(word), 0)

    def test_alike_words_have_one_charge(self):
        for word in [word for word in SHORT if len(word) == 5][::7] + scattered(8, 7, 4, 11) + [(1, 2, 3, 4, 5, 6), (4, 4, 2, 2, 1, 3)]:
            own = brute.word_class(word)
            self.assertEqual({charge(other) for other in own}, {charge(word)})
            self.assertEqual({cocharge(other) for other in own}, {cocharge(word)})

    def test_rising_and_falling_words(self):
        for many in range(1, 13):
            up = tuple(range(1, many + 1))
            self.assertEqual([charge(up), charge(up[::-1])], [many * (many - 1) // 2, 0])
            self.assertEqual([cocharge(up), cocharge(up[::-1])], [0, many * (many - 1) // 2])

    def test_by_place_and_by_name(self):
        for action in (settled, rounds, marks, charge, cocharge):
            same_by_name(self, action, word=(3, 1, 1, 2))


class RowWeights(unittest.TestCase):
    def test_row_weights(self):
        for size in range(9):
            for shape in brute.parted(size):
                self.assertEqual(row_weight(shape), weight(shape))
        self.assertEqual([row_weight(()), row_weight((40,)), row_weight((1,) * 40), row_weight((20, 20))], [0, 0, 780, 20])

    def test_by_place_and_by_name(self):
        same_by_name(self, row_weight, shape=(3, 2, 1))


class MarkNumbers(unittest.TestCase):
    def look_at(self, shape, amounts):
        told = mark_numbers(shape, amounts)
        self.assertEqual(told, brute_more.mark_numbers(shape, amounts), (shape, amounts))
        if told:
            self.assertEqual(sum(told), len(brute_more.tables_with(shape, amounts)))
            self.assertEqual(len(told) - 1, weight(sorted(amounts, reverse=True)) - weight(shape))
            self.assertEqual(told[-1], 1)

    def test_all_tables_with_the_amounts_in_each_order(self):
        for size in range(6):
            for shape in brute.parted(size):
                for parts in brute.parted(size):
                    for amounts in sorted(set(permutations(parts))):
                        self.look_at(shape, amounts)

    def test_noughts_among_the_amounts(self):
        for shape in brute.parted(4):
            for parts in [(2, 1, 1), (2, 2), (4,), (3, 1)]:
                for amounts in [(0,) + parts, parts + (0, 0), parts[:1] + (0,) + parts[1:], (0, 0) + parts[::-1] + (0,)]:
                    self.look_at(shape, amounts)

    def test_greater_shapes(self):
        pairs = [
            ((4, 2, 1), (2, 2, 2, 1)), ((3, 3, 2), (2, 2, 2, 2)), ((5, 3), (2, 2, 1, 1, 1, 1)), ((4, 3, 2), (1, 2, 3, 1, 2)),
            ((6, 4, 2), (4, 4, 4)), ((5, 4, 3), (3, 3, 2, 2, 2)), ((12,), (1,) * 12), ((12,), (4, 8)), ((1,) * 12, (1,) * 12),
        ]
        for shape, amounts in pairs:
            self.look_at(shape, amounts)

    def test_no_tables(self):
        for shape, amounts in [
            ((2, 2), (3, 1)), ((2,), (1,)), ((), (1,)), ((1,), ()), ((1, 1), (2,)), ((1,), (0,)), ((3,), (10 ** 39,)), ((2, 1), (0, 3)),
            ((1,) * 12, (2,) + (1,) * 10), ((12,), (12, 12)),
        ]:
            self.assertEqual(mark_numbers(shape, amounts), ())

    def test_the_empty_shape(self):
        self.assertEqual([mark_numbers((), ()), mark_numbers((), (0,)), mark_numbers((), (0,) * 12)], [(1,)] * 3)

    def test_by_place_and_by_name(self):
        same_by_name(self, mark_numbers, shape=(3, 1), amounts=(1, 2, 1))


class StandardMarks(unittest.TestCase):
    def test_as_many_ones(self):
        for size in range(8):
            for shape in brute.parted(size):
                self.assertEqual(standard_marks(shape), mark_numbers(shape, (1,) * size))
        for shape in [(4, 3, 2, 1), (3, 3, 3), (6, 6), (4, 4, 4), (7, 1, 1, 1, 1, 1), (5, 4, 2, 1)]:
            self.assertEqual(standard_marks(shape), mark_numbers(shape, (1,) * sum(shape)))

    def test_charges_of_standard_tables(self):
        for shape in [(3, 2), (2, 2, 1), (3, 2, 1), (4, 2)]:
            charges = [brute_more.charge(Table(rows).word) for rows in brute.standard_tables(shape)]
            self.assertEqual(standard_marks(shape), tuple(charges.count(number) for number in range(max(charges) + 1)))

    def test_great_shapes(self):
        for shape in [(40,), (1,) * 40, (20, 20), (8, 8, 8, 8, 8), (10, 9, 8, 7, 6), (39, 1), (13, 9, 7, 5, 3, 2, 1), (7, 7, 6, 6, 5, 5, 4)]:
            told = standard_marks(shape)
            self.assertEqual(sum(told), brute.standard_count(shape))
            self.assertEqual(len(told) - 1, weight((1,) * sum(shape)) - weight(shape))
            self.assertEqual(told[-1], 1)
            self.assertTrue(all(number >= 0 for number in told))
            for t in (2, 3):
                self.look_at_value(shape, told, t)

    def look_at_value(self, shape, told, t):
        """The sum of the numbers times powers of t, and the products that are its fraction."""
        upper = t ** weight(self.flipped(shape))
        lower = 1
        for i in range(1, sum(shape) + 1):
            upper *= t ** i - 1
        for row, column in brute.boxes(shape):
            hook = [box for box in brute.boxes(shape) if (box[0] == row and box[1] >= column) or (box[1] == column and box[0] > row)]
            lower *= t ** len(hook) - 1
        self.assertEqual(sum(number * t ** power for power, number in enumerate(told)) * lower, upper)

    def flipped(self, shape):
        return [len([part for part in shape if part > column]) for column in range(shape[0])]

    def test_the_empty_shape(self):
        self.assertEqual([standard_marks(()), standard_marks((1,)), standard_marks((1, 1)), standard_marks((2,))], [(1,), (1,), (1,), (0, 1)])

    def test_by_place_and_by_name(self):
        same_by_name(self, standard_marks, shape=(3, 1))


class Wrong(unittest.TestCase):
    def test_words(self):
        for action in (settled, rounds, marks, charge, cocharge):
            look_for_errors(self, action, ("word", (3, 1, 1, 2), [(InvalidWord, WORDS)]))

    def test_shapes_and_amounts(self):
        amounts = ("amounts", (2, 1), [(InvalidAmounts, AMOUNTS)])
        look_for_errors(self, mark_numbers, ("shape", (2, 1), [(InvalidShape, shapes(12))]), amounts)
        for action in (row_weight, standard_marks):
            look_for_errors(self, action, ("shape", (2, 1), [(InvalidShape, shapes(40))]))


if __name__ == "__main__":
    unittest.main()
