"""Words: points 8 and 9, and wordshapes.words."""

import unittest
from itertools import permutations

from tests import brute
from tests.wrong import HUGE, NO_TUPLES, WORDS, look_for_errors, numbers, raised, same_by_name
from wordshapes.errors import InvalidNumber, InvalidText, InvalidWord, NotStandard
from wordshapes.words import amounts, descents, inverse, standing, turned, word_in, word_text

ALL = [word for long in range(6) for word in brute.words(long, 3)]
LONG = [
    (12,) * 12, (1,) * 12, tuple(range(1, 13)), tuple(range(12, 0, -1)), (12, 1) * 6, (3, 12, 10, 1, 11, 2, 2, 9, 9, 10, 1, 12),
    (12,), (1, 12), (6, 7, 5, 8, 4, 9, 3, 10, 2, 11, 1, 12),
]
ORDERS = [order for long in range(6) for order in permutations(range(1, long + 1))]


class Words(unittest.TestCase):
    def test_amounts(self):
        for word in ALL + LONG:
            told = same_by_name(self, amounts, word=word)
            self.assertEqual(len(told), max(word, default=0))
            self.assertEqual([letter for letter, often in enumerate(told, 1) for _ in range(often)], sorted(word))

    def test_standing(self):
        for word in ALL + LONG:
            told = same_by_name(self, standing, word=word)
            self.assertEqual(sorted(told), list(range(1, len(word) + 1)))
            for low in range(len(word)):
                for high in range(low + 1, len(word)):
                    self.assertIs(told[low] < told[high], word[low] <= word[high])
        for order in ORDERS:
            self.assertEqual(standing(order), order)

    def test_descents(self):
        for word in ALL + LONG:
            told = same_by_name(self, descents, word=word)
            self.assertEqual(list(told), sorted(told))
            for place in range(len(word) - 1):
                self.assertIs(place in told, word[place] > word[place + 1])
            self.assertFalse([place for place in told if not 0 <= place < len(word) - 1])

    def test_inverse(self):
        for order in ORDERS + [LONG[2], LONG[3], LONG[8]]:
            told = same_by_name(self, inverse, order=order)
            for number, place in enumerate(told, start=1):
                self.assertEqual(order[place - 1], number)
            self.assertEqual(inverse(told), order)

    def test_inverse_of_no_order(self):
        for word in [(2,), (12,), (1, 1), (2, 2), (1, 3), (1, 2, 2), (1,) * 12, tuple(range(1, 12)) + (11,)]:
            self.assertIs(raised(inverse, word).__class__, NotStandard)

    def test_turned(self):
        for word in ALL + LONG:
            for most in range(max(word, default=1), 13):
                told = same_by_name(self, turned, word=word, most=most)
                self.assertEqual(len(told), len(word))
                for one, two in zip(word, reversed(told)):
                    self.assertEqual(one + two, most + 1)
                self.assertEqual(turned(told, most), word)


class Texts(unittest.TestCase):
    def test_texts_and_back(self):
        for word in ALL + LONG:
            text = same_by_name(self, word_text, word=word)
            self.assertEqual(text, ".".join(map(str, word)) or "-")
            self.assertEqual(same_by_name(self, word_in, text=text), word)

    def test_no_texts(self):
        texts = [
            "", " ", ".", "..", "-.", ".-", "--", "-1", "+1", "- ", " -", "-\n", "0", "00", "01", "1.02", "012", "13", "1.13", "100", "99",
            "1.", ".1", "1..2", "1.2.", ".1.2", "1 .2", "1. 2", " 1", "1 ", "1\n", "\n1", "1.2\n", "1,2", "1/2", "1-2", "1.-", "-.1",
            "+1.2", "1.+2", "1_0", "1.1_1", "a", "1.a", "x.1", "0x1", "1e1", "1.0", "one", "()", "(1, 2)", "[1]", "1.2 3", "#", "_",
            ".".join(["1"] * 13), "1." * 2000, "1" * 4000, "." * 4000, "12" * 100, str(10 ** 400),
        ]
        values = [value for value in NO_TUPLES if not isinstance(value, str) or value not in ("1", "2.1", "-")]
        for value in texts + values + [(), (1,), (1, 2), ("1",), HUGE]:
            for error in (raised(word_in, value), raised(word_in, text=value)):
                self.assertIs(error.__class__, InvalidText)
                self.assertIs(error.given, value)

    def test_12_and_13_letters(self):
        self.assertEqual(word_in(".".join(["12"] * 12)), (12,) * 12)
        self.assertEqual(word_in("1.2.3.4.5.6.7.8.9.10.11.12"), tuple(range(1, 13)))
        self.assertIs(raised(word_in, ".".join(["12"] * 13)).__class__, InvalidText)


class Wrong(unittest.TestCase):
    def test_words(self):
        wrong = [(InvalidWord, WORDS)]
        for action in (amounts, standing, descents, word_text):
            look_for_errors(self, action, ("word", (12,) * 12, wrong))
            self.assertIsNone(raised(action, ()))
        look_for_errors(self, inverse, ("order", (2, 1), wrong))

    def test_most(self):
        word = ("word", (3, 1, 2), [(InvalidWord, WORDS)])
        look_for_errors(self, turned, word, ("most", 3, [(InvalidNumber, numbers(3, 12) + [1, 2])]))
        look_for_errors(self, lambda most: turned((), most), ("most", 1, [(InvalidNumber, numbers(1, 12))]))
        look_for_errors(self, lambda most: turned((12,), most), ("most", 12, [(InvalidNumber, numbers(12, 12) + [1])]))


if __name__ == "__main__":
    unittest.main()
