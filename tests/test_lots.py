"""Lots: point 16, and wordshapes.lots."""

import unittest
from itertools import permutations

from tests import brute
from tests.samples import LONG, MIDDLE, SHORT, TWELVE, scattered
from tests.wrong import WORDS, look_for_errors, numbers, same_by_name
from wordshapes.errors import InvalidNumber, InvalidWord
from wordshapes.lots import cover, falling_lots, falling_total, rising_cover, rising_lots, rising_total

SEARCHED = [word for long in range(5) for word in brute.words(long, 3)] + [
    *brute.words(5, 2), *permutations(range(1, 6)), *scattered(40, 6, 4, 60), *scattered(15, 7, 4, 70),
]


class Totals(unittest.TestCase):
    def test_totals_against_a_search(self):
        for word in SEARCHED:
            for many in (1, 2, 3, 4):
                self.assertEqual(rising_total(word, many), brute.best_total(word, many, brute.rises))
                self.assertEqual(falling_total(word, many), brute.best_total(word, many, brute.falls))

    def test_totals_and_the_shape(self):
        for word in TWELVE:
            shape = tuple(map(len, brute.table_of(word)))
            columns = [len([wide for wide in shape if wide > column]) for column in range(shape[0])]
            for many in range(1, 13):
                self.assertEqual(same_by_name(self, rising_total, word=word, many=many), sum(shape[:many]))
                self.assertEqual(same_by_name(self, falling_total, word=word, many=many), sum(columns[:many]))

    def test_equal_letters_rise(self):
        self.assertEqual([rising_total((1, 1, 1), 1), falling_total((1, 1, 1), 1), falling_total((1, 1, 1), 2)], [3, 1, 2])


class Lots(unittest.TestCase):
    def look_at_lots(self, word, lots, many, fits, total):
        self.assertIsInstance(lots, tuple)
        self.assertEqual(len(lots), many)
        for lot in lots:
            self.look_at_lot(word, lot, fits)
        places = [place for lot in lots for place in lot]
        self.assertEqual(len(places), len(set(places)))
        self.assertEqual(len(places), total)

    def look_at_lot(self, word, lot, fits):
        self.assertIsInstance(lot, tuple)
        self.assertEqual(list(lot), sorted(set(lot)))
        self.assertLessEqual(set(lot), set(range(len(word))))
        self.assertTrue(fits(word, lot))

    def look_at_cover(self, word, lots, many, fits, total):
        self.assertIsInstance(lots, tuple)
        for lot in lots:
            self.look_at_lot(word, lot, fits)
            self.assertTrue(lot)
        self.assertEqual(sorted(place for lot in lots for place in lot), list(range(len(word))))
        self.assertEqual(sum(min(len(lot), many) for lot in lots), total)

    def look_at_word(self, word, many):
        rising, falling = rising_total(word, many), falling_total(word, many)
        self.look_at_lots(word, rising_lots(word, many), many, brute.rises, rising)
        self.look_at_lots(word, falling_lots(word, many), many, brute.falls, falling)
        self.look_at_cover(word, cover(word, many), many, brute.falls, rising)
        self.look_at_cover(word, rising_cover(word, many), many, brute.rises, falling)

    def test_lots_and_covers_of_short_words(self):
        for word in SHORT + MIDDLE + list(permutations(range(1, 7))):
            for many in range(1, len(word) + 2):
                self.look_at_word(word, many)

    def test_lots_and_covers_of_words_of_twelve_letters(self):
        for word in TWELVE:
            for many in range(1, 13):
                self.look_at_word(word, many)

    def test_the_empty_word(self):
        for many in range(1, 13):
            self.assertEqual([rising_total((), many), falling_total((), many)], [0, 0])
            self.assertEqual([rising_lots((), many), falling_lots((), many)], [((),) * many] * 2)
            self.assertEqual([cover((), many), rising_cover((), many)], [(), ()])

    def test_one_and_twelve_lots(self):
        for word in LONG:
            self.assertEqual([rising_total(word, 12), falling_total(word, 12)], [12, 12])
            self.look_at_word(word, 1)
            self.look_at_word(word, 12)

    def test_by_place_and_by_name(self):
        for action in (rising_lots, falling_lots, cover, rising_cover):
            same_by_name(self, action, word=(2, 1, 3, 1, 2), many=2)


class Wrong(unittest.TestCase):
    def test_words_and_numbers(self):
        for action in (rising_total, falling_total, rising_lots, falling_lots, cover, rising_cover):
            word = ("word", (2, 1, 3, 1, 2), [(InvalidWord, WORDS)])
            look_for_errors(self, action, word, ("many", 12, [(InvalidNumber, numbers(1, 12))]))
            look_for_errors(self, action, ("word", (), [(InvalidWord, WORDS)]), ("many", 1, [(InvalidNumber, numbers(1, 12))]))


if __name__ == "__main__":
    unittest.main()
