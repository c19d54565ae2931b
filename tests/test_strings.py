"""Strings: point 21, the words of point 22, and wordshapes.strings."""

import unittest

from tests import brute, brute_sums
from tests.samples import LONG, MIDDLE, SHORT, TWELVE, scattered
from tests.wrong import WORDS, look_for_errors, numbers, raised, same_by_name
from wordshapes.errors import InvalidLetter, InvalidNumber, InvalidWord, NoMove, TooMany
from wordshapes.pairs import pair_of
from wordshapes.strings import (
    ends, highest, is_highest, lowered, lowest, mirrored, one_web, way_up, web_of,
)
from wordshapes.strings import raised as raised_at
from wordshapes.tables import Table

ALL = SHORT + MIDDLE + TWELVE


class Brackets(unittest.TestCase):
    def test_ends(self):
        for word in ALL:
            for letter in range(1, 12):
                lower, upper = brute_sums.free(word, letter)
                self.assertEqual(ends(word, letter), (len(upper), len(lower)))

    def test_raised_and_lowered(self):
        for word in ALL:
            for letter in range(1, 12):
                self.look_at(raised_at, lowered, word, letter, brute_sums.raised(word, letter))
                self.look_at(lowered, raised_at, word, letter, brute_sums.lowered(word, letter))

    def look_at(self, action, back, word, letter, wanted):
        if wanted is None:
            self.assertIs(raised(action, word, letter).__class__, NoMove)
        else:
            self.assertEqual(action(word, letter), wanted)
            self.assertEqual(back(wanted, letter), word)

    def test_ends_are_how_often_it_goes(self):
        for word in ALL:
            for letter in (1, 2, 11):
                for action, often in zip((raised_at, lowered), ends(word, letter)):
                    now = word
                    for _ in range(often):
                        now = action(now, letter)
                    self.assertIs(raised(action, now, letter).__class__, NoMove)

    def test_mirrored(self):
        for word in ALL:
            for letter in range(1, 12):
                lower, upper = brute_sums.free(word, letter)
                wanted = list(word)
                for at, place in enumerate(lower + upper):
                    wanted[place] = letter if at < len(upper) else letter + 1
                told = mirrored(word, letter)
                self.assertEqual(told, tuple(wanted))
                self.assertEqual(mirrored(told, letter), word)
                self.assertEqual(ends(told, letter), ends(word, letter)[::-1])

    def test_mirrored_exchanges_the_amounts(self):
        for word in SHORT:
            told = mirrored(word, 2)
            self.assertEqual([told.count(2), told.count(3)], [word.count(3), word.count(2)])

    def test_the_greatest_letters(self):
        self.assertEqual([lowered((11,), 11), raised_at((12,), 11), mirrored((11, 12), 11)], [(12,), (11,), (11, 12)])
        self.assertEqual([mirrored((11, 11), 11), ends((12, 11), 11), ends((), 11)], [(12, 12), (0, 0), (0, 0)])

    def test_the_second_table_stays(self):
        for word in SHORT + TWELVE:
            second = pair_of(word)[1]
            for letter in range(1, 12):
                self.assertEqual(pair_of(mirrored(word, letter))[1], second)
                if ends(word, letter)[0]:
                    self.assertEqual(pair_of(raised_at(word, letter))[1], second)
                if ends(word, letter)[1]:
                    self.assertEqual(pair_of(lowered(word, letter))[1], second)

    def test_alike_words_stay_alike(self):
        for word in [word for word in SHORT if len(word) == 5][::7] + scattered(4, 7, 4, 5):
            own = brute.word_class(word)
            for letter in (1, 2, 3):
                for action, often in ((raised_at, ends(word, letter)[0]), (lowered, ends(word, letter)[1]), (mirrored, 1)):
                    if often:
                        self.assertEqual({action(other, letter) for other in own}, brute.word_class(action(word, letter)))
                    else:
                        self.assertTrue(all(raised(action, other, letter) for other in own))

    def test_by_place_and_by_name(self):
        for action in (ends, raised_at, lowered, mirrored):
            same_by_name(self, action, word=(2, 1, 3, 1, 2), letter=1)


class Webs(unittest.TestCase):
    def test_webs_of_short_words(self):
        for word in SHORT:
            for most in range(max(word, default=1), 5):
                wanted = brute_sums.web(word, most)
                if len(wanted) <= 300:
                    self.assertEqual(web_of(word, most), tuple(sorted(wanted)))
                    self.assertEqual(lowest(word, most), self.lowest_of(wanted, most))
                    self.assertIn(highest(word), wanted)

    def lowest_of(self, words, most):
        found = [word for word in words if all(brute_sums.lowered(word, letter) is None for letter in range(1, most))]
        self.assertEqual(len(found), 1)
        return found[0]

    def test_webs_with_all_letters(self):
        for word in ((), (5,), (1, 1), (12, 11), (3, 2, 1)):
            self.assertEqual(web_of(word, 12), tuple(sorted(brute_sums.web(word, 12))))
        self.assertEqual([len(web_of((7,), 12)), len(web_of((1, 2), 12)), len(web_of((2, 1), 12))], [12, 78, 66])

    def test_one_word(self):
        self.assertEqual([web_of((1, 1), 1), web_of((), 1), lowest((1, 1), 1), lowest((), 12)], [((1, 1),), ((),), (1, 1), ()])

    def test_a_web_has_one_word_for_each_table(self):
        for word in scattered(6, 6, 3, 8):
            tables = {Table.of(other).rows for other in web_of(word, 3)}
            self.assertEqual(tables, set(brute.tables(Table.of(word).shape, 3)))

    def test_2000_words_and_more(self):
        self.assertEqual(len(web_of((1,) * 12, 5)), 1820)
        self.assertEqual(len(web_of((12, 11, 10, 9), 12)), 495)
        self.assertEqual(len(web_of((1, 2, 3, 4), 12)), 1365)
        for word, most in (((1,) * 12, 6), ((1,) * 12, 12), (tuple(range(1, 13)), 12), ((2, 1, 3, 2, 1), 12), ((1,) * 5, 12)):
            error = raised(web_of, word, most)
            self.assertEqual([error.__class__, error.limit], [TooMany, 2000])

    def test_a_web_of_just_2000_words(self):
        told = web_of((4, 3, 3, 2, 2, 1, 1, 1, 1, 1, 1), 5)
        self.assertEqual([len(told), len(set(told)), told], [2000, 2000, tuple(sorted(told))])
        for word, most in (((1,) * 9, 6), ((1,) * 5, 10)):
            self.assertIs(raised(web_of, word, most).__class__, TooMany)

    def test_one_web(self):
        for long in range(5):
            words = brute.words(long, 3)
            webs = {word: frozenset(brute_sums.web(word, 3)) for word in words}
            for word in words:
                for other in words:
                    self.assertIs(one_web(word, other), webs[word] == webs[other])

    def test_one_web_of_long_words(self):
        for word in TWELVE:
            self.assertTrue(one_web(word, lowest(word, 12)))
            self.assertTrue(one_web(mirrored(word, 3), mirrored(word, 8)))
            self.assertIs(one_web(word, word[::-1]), pair_of(word)[1] == pair_of(word[::-1])[1])

    def test_unlike_lengths(self):
        self.assertFalse(one_web((1,), (1, 1)))
        self.assertFalse(one_web((), (1,)))

    def test_by_place_and_by_name(self):
        same_by_name(self, web_of, word=(2, 1, 3), most=4)
        same_by_name(self, lowest, word=(2, 1, 3), most=4)
        same_by_name(self, one_web, word=(1, 2, 1), other=(2, 3, 2))


class Highest(unittest.TestCase):
    def test_highest_words(self):
        for word in ALL:
            wanted = all(brute_sums.raised(word, letter) is None for letter in range(1, 12))
            self.assertIs(is_highest(word), wanted)
            self.assertIs(brute_sums.is_ballot(word), wanted)

    def test_ways_up(self):
        for word in ALL:
            now, letters = word, []
            able = self.raises(now)
            while able:
                letters.append(able[0])
                now = brute_sums.raised(now, able[0])
                able = self.raises(now)
            self.assertEqual(way_up(word), tuple(letters))
            self.assertEqual(highest(word), now)

    def raises(self, word):
        return [letter for letter in range(1, 12) if brute_sums.raised(word, letter) is not None]

    def test_whichever_letters_are_taken(self):
        for word in ALL:
            now, able = word, self.raises(word)
            while able:
                now = brute_sums.raised(now, able[-1])
                able = self.raises(now)
            self.assertEqual(highest(word), now)

    def test_lowest_words(self):
        for word in MIDDLE + LONG:
            for most in sorted({max(word), 12}):
                told = lowest(word, most)
                self.assertEqual([brute_sums.lowered(told, letter) for letter in range(1, most)], [None] * (most - 1))
                self.assertEqual(pair_of(told)[1], pair_of(word)[1])
                self.assertLessEqual(max(told), most)

    def test_by_name(self):
        for action in (is_highest, highest, way_up):
            same_by_name(self, action, word=(2, 1, 3, 1, 2))


class Wrong(unittest.TestCase):
    def test_words_and_letters(self):
        word = ("word", (2, 1, 3, 1, 2), [(InvalidWord, WORDS)])
        for action in (ends, mirrored, raised_at, lowered):
            look_for_errors(self, action, word, ("letter", 1, [(InvalidLetter, numbers(1, 11))]))
        for action in (is_highest, highest, way_up):
            look_for_errors(self, action, word)
        look_for_errors(self, one_web, word, ("other", (1,), [(InvalidWord, WORDS)]))

    def test_the_greatest_letter(self):
        word = ("word", (2, 1, 3, 1, 2), [(InvalidWord, WORDS)])
        for action in (web_of, lowest):
            look_for_errors(self, action, word, ("most", 3, [(InvalidNumber, numbers(3, 12) + [0, 1])]))
            look_for_errors(
                self, action, ("word", (), [(InvalidWord, WORDS)]), ("most", 1, [(InvalidNumber, numbers(1, 12))]))

    def test_no_move_comes_last(self):
        self.assertIs(raised(raised_at, (1,), 12).__class__, InvalidLetter)
        self.assertIs(raised(lowered, (0,), 1).__class__, InvalidWord)
        self.assertIs(raised(web_of, (1,) * 12, 13).__class__, InvalidNumber)


if __name__ == "__main__":
    unittest.main()
