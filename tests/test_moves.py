"""Moves: point 13, and wordshapes.moves."""

import unittest
from itertools import permutations

from tests import brute
from tests.samples import LONG, MIDDLE, SHORT, TWELVE, orders
from tests.wrong import WORDS, look_for_errors, numbers, raised, same_by_name
from wordshapes.errors import InvalidPlace, InvalidWord, NoMove, TooMany
from wordshapes.moves import alike, chain, class_count, class_of, moved, moves


class Moves(unittest.TestCase):
    def test_the_four_cases(self):
        cases = {
            (2, 1, 2): (2, 2, 1), (2, 1, 3): (2, 3, 1), (3, 1, 3): (3, 3, 1), (3, 2, 3): (3, 3, 2),
            (1, 2, 1): (2, 1, 1), (1, 3, 1): (3, 1, 1), (1, 3, 2): (3, 1, 2), (2, 3, 2): (3, 2, 2),
        }
        cases = {**cases, **{behind: ahead for ahead, behind in cases.items()}}
        for word in brute.words(3, 3):
            self.assertEqual(moves(word), (0,) if word in cases else ())
            if word in cases:
                self.assertEqual(moved(word, 0), cases[word])
            else:
                self.assertIs(raised(moved, word, 0).__class__, NoMove)

    def test_moves_place_by_place(self):
        for word in SHORT + TWELVE + MIDDLE:
            wanted = brute.moves(word)
            self.assertEqual(same_by_name(self, moves, word=word), tuple(sorted(wanted)))
            for place in range(len(word)):
                if place in wanted:
                    self.assertEqual(same_by_name(self, moved, word=word, place=place), wanted[place])
                else:
                    self.assertIs(raised(moved, word, place).__class__, NoMove)

    def test_the_move_that_leads_back(self):
        for word in SHORT + TWELVE:
            for place in moves(word):
                behind = moved(word, place)
                self.assertNotEqual(behind, word)
                self.assertEqual(moved(behind, place), word)


class Alike(unittest.TestCase):
    def walk(self, word, places):
        self.assertIsInstance(places, tuple)
        for place in places:
            word = brute.moves(word)[place]
        return word

    def test_alike_and_chains_of_short_words(self):
        for long in range(5):
            for word in brute.words(long, 3):
                own = brute.word_class(word)
                for other in brute.words(long, 3):
                    self.look_at_pair(word, other, other in own)

    def look_at_pair(self, word, other, wanted):
        self.assertIs(alike(word, other), wanted)
        places = chain(word, other)
        if wanted:
            self.assertEqual(self.walk(word, places), other)
        else:
            self.assertIsNone(places)

    def test_orders_of_five(self):
        for word in permutations(range(1, 6)):
            own = brute.word_class(word)
            for other in ((1, 2, 3, 4, 5), (5, 4, 3, 2, 1), (3, 1, 4, 2, 5), (2, 5, 4, 1, 3), word[::-1], min(own), max(own)):
                self.look_at_pair(word, other, other in own)

    def test_words_of_unlike_lengths(self):
        self.look_at_pair((1, 2), (1, 2, 3), False)
        self.look_at_pair((), (1,), False)
        self.look_at_pair((2, 1, 1), (2, 1, 1, 1), False)

    def test_chains_between_words_of_twelve_letters(self):
        for word in TWELVE:
            other = word
            for step in range(200):
                ways = sorted(brute.moves(other).items())
                if ways:
                    other = ways[(step * step + 3 * step) % len(ways)][1]
            self.assertTrue(alike(word, other))
            self.assertEqual(self.walk(word, chain(word, other)), other)
            self.assertEqual(self.walk(other, chain(other, word)), word)

    def test_chains_to_the_word_of_the_table(self):
        for word in TWELVE:
            target = tuple(letter for row in reversed(brute.table_of(word)) for letter in row)
            self.assertEqual(self.walk(word, chain(word, target)), target)

    def test_no_chain_is_needed(self):
        for word in SHORT + LONG:
            self.assertEqual(chain(word, word), ())

    def test_by_place_and_by_name(self):
        for action in (alike, chain):
            same_by_name(self, action, word=(3, 1, 2, 1), other=(1, 3, 2, 1))
            same_by_name(self, action, word=(1, 2), other=(2, 1))


class Classes(unittest.TestCase):
    def test_classes_against_a_search(self):
        for word in SHORT + MIDDLE:
            told = same_by_name(self, class_of, word=word)
            self.assertEqual(told, tuple(sorted(brute.word_class(word))))
            self.assertEqual(same_by_name(self, class_count, word=word), len(told))

    def test_counts_of_long_words(self):
        for word in TWELVE:
            self.assertEqual(class_count(word), brute.standard_count(tuple(map(len, brute.table_of(word)))))
        self.assertEqual(class_count(tuple(range(1, 13))), 1)
        self.assertEqual(class_count((7, 8, 9, 10, 11, 12, 1, 2, 3, 4, 5, 6)), 132)
        self.assertIsInstance(class_count(()), int)

    def test_nine_and_ten_letters(self):
        for word in orders(3, 9, 5):
            self.assertEqual(len(class_of(word)), class_count(word))
        for word in LONG + [word[:10] for word in LONG] + orders(3, 10, 6):
            self.assertEqual(raised(class_of, word).limit, 9)
            self.assertIs(raised(class_of, word).__class__, TooMany)


class Wrong(unittest.TestCase):
    def test_words(self):
        wrong = [(InvalidWord, WORDS)]
        for action in (moves, class_of, class_count):
            look_for_errors(self, action, ("word", (2, 1, 2), wrong))
        for action in (alike, chain):
            look_for_errors(self, action, ("word", (2, 1, 2), wrong), ("other", (1, 2), wrong))

    def test_places(self):
        word = ("word", (3, 1, 2, 1), [(InvalidWord, WORDS)])
        look_for_errors(self, moved, word, ("place", 1, [(InvalidPlace, numbers(0, 3))]))
        look_for_errors(self, lambda place: moved((2, 1, 2), place), ("place", 0, [(InvalidPlace, numbers(0, 2))]))
        for value in numbers(1, 0):
            self.assertIs(raised(moved, (), value).__class__, InvalidPlace)

    def test_no_move_comes_last(self):
        for word, place in (((1,), 0), ((1, 2), 1), ((1, 2, 3), 0), ((2, 1, 2), 1), ((2, 1, 2), 2), ((1, 1, 1), 0)):
            self.assertIs(raised(moved, word, place).__class__, NoMove)


if __name__ == "__main__":
    unittest.main()
