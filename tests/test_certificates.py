"""Certificates: wordshapes.certificates."""

import unittest
from unittest.mock import patch

from tests import brute, brute_claims
from tests.samples import LONG, MIDDLE, SHORT, TWELVE
from tests.wrong import NO_SKEWS, SKEW, WORDS, look_for_errors, numbers, raised, same_by_name, shapes
from wordshapes import certificates
from wordshapes.certificates import (
    certify_alike, certify_falling, certify_grows, certify_heavier, certify_joins, certify_rising, certify_slides, certify_web,
)
from wordshapes.checker import accepts
from wordshapes.errors import InvalidNumber, InvalidShape, InvalidWord, NotASkew, TooMany, UnlikeSizes
from wordshapes.skews import Skew
from wordshapes.slides import beside, slid_out, staircase
from wordshapes.tables import Table

FEW = SHORT[::5] + MIDDLE[::4]
ALL = SHORT + MIDDLE + TWELVE


class CertificateTest(unittest.TestCase):
    def look_at(self, told, claim):
        self.assertEqual([len(told), told[0]], [2, claim])
        self.assertTrue(brute_claims.same(told[0], claim))
        self.assertIs(accepts(told[0], told[1]), True)
        self.assertTrue(brute_claims.judged(told[0], told[1]))


class Alike(CertificateTest):
    def test_all_words_of_a_class(self):
        for word in FEW:
            for other in sorted(brute.word_class(word))[:12] if len(word) < 9 else [Table.of(word).word]:
                self.look_at(certify_alike(word, other), ("alike", word, other))

    def test_words_that_are_not_alike(self):
        for word in FEW:
            for other in FEW:
                told = certify_alike(word, other)
                self.assertIs(told is None, brute.table_of(word) != brute.table_of(other))

    def test_words_of_one_web(self):
        for word in FEW:
            for other in FEW:
                told = certify_web(word, other)
                if brute_claims.top(word) == brute_claims.top(other):
                    self.look_at(told, ("web", word, other))
                else:
                    self.assertIsNone(told)

    def test_long_words(self):
        for word in TWELVE:
            self.look_at(certify_alike(word, Table.of(word).word), ("alike", word, Table.of(word).word))
            self.look_at(certify_web(word, brute_claims.top(word)), ("web", word, brute_claims.top(word)))


class Totals(CertificateTest):
    def test_short_words(self):
        for word in FEW:
            for many in (1, 2, 3, 12):
                best = brute.best_total(word, many, brute.rises)
                self.look_at(certify_rising(word, many), ("rising", word, many, best))
                best = brute.best_total(word, many, brute.falls)
                self.look_at(certify_falling(word, many), ("falling", word, many, best))

    def test_long_words(self):
        for word in TWELVE:
            for many in (1, 2, 4, 12):
                shape = brute_claims.shape_of(word)
                self.look_at(certify_rising(word, many), ("rising", word, many, sum(shape[:many])))
                total = sum(min(part, many) for part in shape)
                self.look_at(certify_falling(word, many), ("falling", word, many, total))


class Shapes(CertificateTest):
    def test_heavier_and_lighter(self):
        for size in range(8):
            for shape in brute.parted(size):
                for other in brute.parted(size):
                    sort = "heavier" if brute_claims.is_heavier(shape, other) else "lighter"
                    self.look_at(certify_heavier(shape, other), (sort, shape, other))

    def test_twelve_boxes(self):
        some = brute.parted(12)
        for shape in some[::9]:
            for other in some[::7]:
                sort = "heavier" if brute_claims.is_heavier(shape, other) else "lighter"
                self.look_at(certify_heavier(shape, other), (sort, shape, other))

    def test_unlike_sizes(self):
        for shape, other in [((), (1,)), ((12,), (11,)), ((2, 1), (2, 2))]:
            self.assertIs(raised(certify_heavier, shape, other).__class__, UnlikeSizes)
            self.assertIs(raised(certify_heavier, other, shape).__class__, UnlikeSizes)

    def test_joins(self):
        for first in brute.parted(3) + brute.parted(1):
            for second in brute.parted(3) + brute.parted(2) + [()]:
                for third in brute.parted(sum(first) + sum(second)) + [(1,), ()]:
                    many = brute_claims.join_count(first, second, third)
                    self.look_at(certify_joins(first, second, third), ("joins", first, second, third, many))

    def test_joins_of_twelve_boxes(self):
        for shapes_told in [((3, 2, 1), (3, 2, 1), (4, 3, 2, 2, 1)), ((3, 2, 1), (3, 2, 1), (5, 3, 2, 1, 1)), ((3, 2, 1), (2, 2, 1, 1), (4, 3, 3, 1, 1))]:
            many = brute_claims.join_count(*shapes_told)
            self.look_at(certify_joins(*shapes_told), ("joins", *shapes_told, many))

    def test_more_than_the_limit(self):
        # Within twelve boxes no join count comes near the limit, so a lower one is put in its place.
        with patch("wordshapes.checks.MOST_LISTED", 1):
            error = raised(certify_joins, (2, 1), (2, 1), (3, 2, 1))
            self.assertIsNone(raised(certify_joins, (2, 1), (2, 1), (4, 2)))
        self.assertEqual([error.__class__, error.limit], [TooMany, 1])


class Skews(CertificateTest):
    def look_at_skew(self, skew):
        table = brute.table_of(skew.word)
        self.look_at(certify_slides(skew), ("slides", skew.inner, skew.rows, table))

    def test_slides(self):
        for word in FEW + LONG:
            self.look_at_skew(staircase(word))
            self.look_at_skew(Skew((), Table.of(word).rows))
            for other in FEW[::9]:
                if len(word) + len(other) <= 12:
                    self.look_at_skew(beside(Table.of(word), Table.of(other)))

    def test_skews_slid_out(self):
        for word in FEW[::3]:
            skew = Skew((), Table.of(word).rows)
            for row in (0, 0, 0):
                skew = slid_out(skew, row)
                self.look_at_skew(skew)

    def test_skews_without_letters(self):
        for inner in [(1,), (3, 2, 2), (66,), (11, 10, 9, 8, 7, 6, 5, 4, 3, 2, 1)]:
            self.look_at_skew(Skew(inner, ((),) * len(inner)))

    def test_grows(self):
        for word in ALL[::3]:
            self.look_at(certify_grows(word), ("grows", word, brute_claims.shape_of(word)))


class Wrong(unittest.TestCase):
    def test_words(self):
        word, other = ("word", (2, 1, 2), [(InvalidWord, WORDS)]), ("other", (2, 2, 1), [(InvalidWord, WORDS)])
        for action in (certify_alike, certify_web):
            look_for_errors(self, action, word, other)
        for action in (certify_rising, certify_falling):
            look_for_errors(self, action, word, ("many", 2, [(InvalidNumber, numbers(1, 12))]))
        look_for_errors(self, certify_grows, word)

    def test_shapes_and_skews(self):
        wrong = [(InvalidShape, shapes(12))]
        look_for_errors(self, certify_heavier, ("shape", (2, 1), wrong), ("other", (3,), wrong))
        look_for_errors(self, certify_joins, ("first", (1,), wrong), ("second", (1,), wrong), ("third", (2,), wrong))
        look_for_errors(self, certify_slides, ("skew", SKEW, [(NotASkew, NO_SKEWS)]))

    def test_by_place_and_by_name(self):
        for name in ("certify_alike", "certify_web"):
            same_by_name(self, getattr(certificates, name), word=(2, 1, 2), other=(2, 2, 1))
        for name in ("certify_rising", "certify_falling"):
            same_by_name(self, getattr(certificates, name), word=(2, 1, 2), many=2)
        same_by_name(self, certify_heavier, shape=(2, 2), other=(3, 1))
        same_by_name(self, certify_joins, first=(2, 1), second=(1,), third=(3, 1))
        same_by_name(self, certify_slides, skew=SKEW)
        same_by_name(self, certify_grows, word=(2, 1, 2))


if __name__ == "__main__":
    unittest.main()
