"""Ballot words and fillings: points 22 and 27, and wordshapes.ballots."""

import unittest
from itertools import product
from unittest.mock import patch

from tests import brute, brute_sums
from tests.samples import MIDDLE, SHORT, TWELVE
from tests.wrong import AMOUNTS, HUGE, WORDS, look_for_errors, raised, same_by_name, shapes
from wordshapes.ballots import ballot_count, ballot_fillings, is_ballot
from wordshapes.errors import InvalidAmounts, InvalidShape, InvalidWord, NotInside, TooMany
from wordshapes.skews import Skew
from wordshapes.strings import is_highest


def held_by(outer):
    """All shapes that a shape holds."""
    return [shape for size in range(sum(outer) + 1) for shape in brute.parted(size) if brute.boxes(shape) <= brute.boxes(outer)]


class Words(unittest.TestCase):
    def test_plain_count_and_highest_words(self):
        for word in SHORT + MIDDLE + TWELVE + [(2, 1, 3, 2, 1, 1), (12,), (11, 12), (12, 11, 10, 9, 8, 7, 6, 5, 4, 3, 2, 1)]:
            told = same_by_name(self, is_ballot, word=word)
            self.assertIs(told, brute_sums.is_ballot(word))
            self.assertIs(told, is_highest(word))


class Fillings(unittest.TestCase):
    def look_at(self, outer, inner, amounts):
        told = ballot_fillings(outer, inner, amounts)
        left = sum(outer) - sum(inner)
        wanted = brute_sums.ballot_fillings(outer, inner, amounts) if sum(amounts) == left else []
        self.assertIsInstance(told, tuple)
        self.assertEqual([skew.rows for skew in told], wanted)
        self.assertEqual(list(told), [Skew(inner, rows) for rows in wanted])
        self.assertEqual(ballot_count(outer, inner, amounts), len(wanted))

    def test_small_shapes(self):
        for size in range(7):
            for outer in brute.parted(size):
                for inner in held_by(outer):
                    for amounts in brute.parted(size - sum(inner)):
                        self.look_at(outer, inner, amounts)

    def test_any_amounts(self):
        for amounts in product(range(3), repeat=3):
            for outer, inner in (((3, 2, 1), (2, 1)), ((2, 1), ()), ((3, 3), (2,)), ((2, 2, 1, 1), (1, 1)), ((3, 1), (3, 1))):
                self.look_at(outer, inner, amounts)

    def test_noughts(self):
        self.assertEqual(ballot_fillings((2, 1), (2, 1), (0, 0)), (Skew((2, 1), ((), ())),))
        self.assertEqual(ballot_fillings((), (), ()), (Skew((), ()),))
        self.assertEqual(ballot_fillings((2, 1), (1,), (2, 0, 0)), (Skew((1,), ((1,), (1,))),))
        self.assertEqual(ballot_fillings((2, 1), (1,), (1, 1) + (0,) * 10), (Skew((1,), ((1,), (2,))),))
        self.assertEqual([ballot_fillings((2, 1), (1,), (0, 2)), ballot_count((2, 1), (1,), (1, 0, 1))], [(), 0])

    def test_another_sum(self):
        for amounts in ((), (1,), (3,), (2, 1), (HUGE,), (HUGE, 1), (1,) * 12):
            self.assertEqual([ballot_fillings((2, 1), (1,), amounts), ballot_count((2, 1), (1,), amounts)], [(), 0])

    def test_twelve_boxes(self):
        for outer in ((4, 4, 3, 1), (5, 4, 2, 1), (3, 3, 2, 2, 1, 1), (12,), (1,) * 12, (6, 6), (4, 3, 2, 1, 1, 1)):
            self.assertEqual(ballot_count(outer, (), outer), 1)
            self.assertEqual([skew.amounts for skew in ballot_fillings(outer, (), outer)], [outer])
        self.assertEqual(ballot_count((5, 4, 2, 1), (3, 2, 1), (3, 2, 1)), len(brute_sums.ballot_fillings((5, 4, 2, 1), (3, 2, 1), (3, 2, 1))))
        self.assertEqual(ballot_count((4, 3, 3, 2), (2, 2, 1), (3, 2, 1, 1)), ballot_count((4, 3, 3, 2), (3, 2, 1, 1), (2, 2, 1)))

    def test_more_than_the_limit(self):
        # No shape of 12 boxes has 2000 ballot fillings, so a lower limit is set to see it kept.
        self.assertEqual(ballot_count((4, 3, 2, 1), (3, 2, 1), (2, 1, 1)), 3)
        with patch("wordshapes.checks.MOST_LISTED", 2):
            error = raised(ballot_fillings, (4, 3, 2, 1), (3, 2, 1), (2, 1, 1))
            self.assertEqual([error.__class__, error.limit], [TooMany, 2])
            self.assertEqual(ballot_count((4, 3, 2, 1), (3, 2, 1), (2, 1, 1)), 3)
        with patch("wordshapes.checks.MOST_LISTED", 3):
            self.assertEqual(len(ballot_fillings((4, 3, 2, 1), (3, 2, 1), (2, 1, 1))), 3)

    def test_by_name(self):
        for action in (ballot_fillings, ballot_count):
            same_by_name(self, action, outer=(4, 3, 2, 1), inner=(3, 2, 1), amounts=(2, 1, 1))


class Wrong(unittest.TestCase):
    def test_words(self):
        look_for_errors(self, is_ballot, ("word", (2, 1), [(InvalidWord, WORDS)]))

    def test_shapes_and_amounts(self):
        wrong = [(InvalidShape, shapes(12))]
        for action in (ballot_fillings, ballot_count):
            amounts = ("amounts", (2, 1), [(InvalidAmounts, AMOUNTS)])
            look_for_errors(self, action, ("outer", (3, 2, 1), wrong), ("inner", (2, 1), wrong), amounts)

    def test_not_inside_comes_last(self):
        for action in (ballot_fillings, ballot_count):
            for outer, inner in (((2, 1), (3,)), ((), (1,)), ((3,), (1, 1)), ((3, 3), (2, 2, 1)), ((2, 1), (1, 1, 1)), ((4, 1), (2, 2))):
                for amounts in ((), (1,), (0, 1), (sum(outer),)):
                    self.assertIs(raised(action, outer, inner, amounts).__class__, NotInside)
                self.assertIs(raised(action, outer, inner, (-1,)).__class__, InvalidAmounts)


if __name__ == "__main__":
    unittest.main()
