"""Hives: point 28, and wordshapes.hives."""

import unittest
from itertools import product
from unittest.mock import patch

from tests import brute, brute_sums
from tests.test_ballots import held_by
from tests.wrong import HUGE, NO_SKEWS, NO_TUPLES, SKEW, TABLE, Stranger, look_at, look_for_errors, raised, same_by_name, shapes
from wordshapes.ballots import ballot_count, ballot_fillings
from wordshapes.errors import InvalidHive, InvalidHoles, InvalidShape, NotASkew, TooMany
from wordshapes.hives import hive_count, hive_of, hives, skew_of
from wordshapes.skews import Skew

SMALL = [shape for size in range(5) for shape in brute.parted(size) if len(shape) < 4]
FOUR = [
    ((2, 1, 1), (2, 1), (3, 2, 1, 1)), ((2, 1), (2, 1, 1, 1), (3, 2, 2, 1)), ((3, 2, 1), (2, 1, 1), (4, 3, 2, 1)), ((1, 1, 1, 1), (2,), (3, 1, 1, 1)),
    ((), (2, 1, 1, 1), (2, 1, 1, 1)), ((2, 2, 1), (2, 1), (3, 2, 2, 1)), ((1, 1), (1, 1), (1, 1, 1, 1)), ((2, 1), (2, 1), (3, 1, 1, 1)),
    ((1, 1, 1, 1), (1, 1, 1, 1), (2, 2, 2, 2)), ((2, 1), (1, 1, 1, 1), (3, 2, 1, 1)), ((4,), (1, 1, 1), (4, 1, 1, 1)), ((2,), (1,), (2, 1, 1, 1)),
]
GREAT = [
    ((3, 2, 1), (3, 2, 1), (5, 4, 2, 1)), ((3, 2, 1), (3, 2, 1), (4, 3, 3, 2)), ((6,), (6,), (8, 4)), ((2, 2, 2), (3, 2, 1), (4, 3, 3, 2)),
    ((12,), (), (12,)), ((), (3, 3, 3, 3), (3, 3, 3, 3)), ((3, 2, 1, 1), (2, 2, 1), (4, 4, 2, 2)),
]
# Nearly a hive, or not even that.
NO_HIVES = NO_TUPLES + [
    (), ((0,),), ((),), ((), ()), ((0, 0),), ((0, 0), ()), ((0, 0), (0,), ()), ((0, 0), (0, 0)), ((1, 1), (1,)), ((0, 1), (2,)), ((0, -1), (0,)),
    ((0, 1), (-1,)), ((0, 13), (0,)), ((0, 13), (13,)), ((0, HUGE), (0,)), ((0, 1), (HUGE,)), ((0, -HUGE), (0,)), ((0, True), (0,)),
    ((False, 1), (0,)), ((0, 1), (False,)), ((0, 1), (True,)), ((0, 1), (None,)), ((0, "1"), (0,)), ((0, 1), [0]), ([0, 1], (0,)), [(0, 1), (0,)],
    ((0, 1), (0,), (0,)), ((0, 0, 0), (0, 0), (0,)), ((0, 1, 1), (1, 1), (1,)), ((0, 3, 5), (2, 4)), ((0, 3, 5), (2, 4), ()), ((0, 3, 5), (2, 4), (3, 3)),
    ((0, 3, 5), (2,), (3,)), ((0, 3, 5), (2, 4), (3,), ()), ((0, 3, 5, 5), (2, 4), (3,)), ((0, 3, 5), [2, 4], (3,)), ((0, 3, 5), (2, 4), (4,)),
    ((0, 3, 5), (2, 6), (3,)), ((0, 3, 5), (2, 3), (3,)), ((0, 2, 5), (2, 4), (3,)), ((0, 3, 5), (1, 4), (3,)),
    ((1, 4, 6), (3, 5), (4,)), ((0, 3, 5), (2, 4), (Stranger(),)), ((0, 3, 5), (2, 4), ((3,),)), (((0,), 3, 5), (2, 4), (3,)), ((0, 3, 5), "24", (3,)),
    ((0, 1, 2, 3, 4, 5), (1, 2, 3, 4, 5), (2, 3, 4, 5), (3, 4, 5), (4, 5), (5,)), ((0,) * 6, (0,) * 5, (0,) * 4, (0,) * 3, (0,) * 2, (0,)),
    ((0, 7, 14), (7, 14), (14,)), ((0, 7, 13), (6, 12), (7,)), ((0, 0), None), (None, (0,)), (None,), (5,), ((0, 0), 0), ((0, 0), Stranger()), (Stranger(), (0,)), ((0,),) * 5000, ((0,) * 5000,), ((0, 1j), (0,)), TABLE,
]


class Hives(unittest.TestCase):
    def test_small_shapes(self):
        for first, second in product(SMALL, SMALL):
            if sum(first) + sum(second) <= 6:
                for third in brute.parted(sum(first) + sum(second)):
                    if len(third) < 4:
                        self.look_at(first, second, third)

    def test_four_elements(self):
        for first, second, third in FOUR:
            self.look_at(first, second, third)

    def look_at(self, first, second, third):
        wanted = brute_sums.hives(first, second, third)
        self.assertEqual(hives(first, second, third), tuple(wanted))
        self.assertEqual(hive_count(first, second, third), len(wanted))

    def test_sizes_that_do_not_add_up(self):
        for first, second, third in product(SMALL, repeat=3):
            if sum(first) + sum(second) != sum(third):
                self.assertEqual([hives(first, second, third), hive_count(first, second, third)], [(), 0])

    def test_shapes_that_are_not_held(self):
        for first, second, third in (((2,), (1,), (1, 1, 1)), ((1, 1), (1,), (3,)), ((2, 2), (2,), (5, 1)), ((4,), (1,), (3, 2))):
            self.assertEqual([hives(first, second, third), hive_count(first, second, third)], [(), 0])

    def test_empty_shapes(self):
        self.assertEqual(hives((), (), ()), (((0, 0), (0,)),))
        self.assertEqual(hives((), (2, 1), (2, 1)), (((0, 2, 3), (0, 2), (0,)),))
        self.assertEqual(hives((2, 1), (), (2, 1)), (((0, 2, 3), (2, 3), (3,)),))

    def test_more_than_the_limit(self):
        # No shapes of 12 boxes have 2000 hives, so a lower limit is set to see it kept.
        shapes_here = ((3, 2, 1), (2, 1, 1), (4, 3, 2, 1))
        self.assertEqual(hive_count(*shapes_here), 3)
        with patch("wordshapes.checks.MOST_LISTED", 2):
            error = raised(hives, *shapes_here)
            self.assertEqual([error.__class__, error.limit], [TooMany, 2])
            self.assertEqual(hive_count(*shapes_here), 3)
        with patch("wordshapes.checks.MOST_LISTED", 3):
            self.assertEqual(len(hives(*shapes_here)), 3)

    def test_great_shapes(self):
        for first, second, third in GREAT:
            told = hives(first, second, third)
            self.assertEqual(len(told), ballot_count(third, first, second))
            self.assertGreater(len(told), 0)
            self.assertEqual(list(told), sorted(set(told)))

    def test_by_name(self):
        for action in (hives, hive_count):
            same_by_name(self, action, first=(3, 2, 1), second=(2, 1, 1), third=(4, 3, 2, 1))


class BothWays(unittest.TestCase):
    def test_small_shapes(self):
        for size in range(8):
            for outer in brute.parted(size):
                if len(outer) < 5:
                    for inner in held_by(outer):
                        for amounts in brute.parted(size - sum(inner)):
                            self.look_at(inner, amounts, outer)

    def test_great_shapes(self):
        for first, second, third in GREAT + FOUR:
            self.look_at(first, second, third)

    def look_at(self, inner, amounts, outer):
        skews = ballot_fillings(outer, inner, amounts)
        told = [hive_of(skew) for skew in skews]
        for skew, hive in zip(skews, told):
            self.assertEqual(hive, self.hive_by_letters(skew))
            self.assertEqual(skew_of(hive), skew)
        wanted = hives(inner, amounts, outer) if len(amounts) < 5 else ()
        self.assertEqual(tuple(sorted(told)), wanted)

    def hive_by_letters(self, skew):
        n = max(1, len(skew.outer))
        rows = []
        for i in range(n + 1):
            row = []
            for j in range(n - i + 1):
                letters = sum((skew.rows[at] for at in range(min(i + j, len(skew.rows)))), ())
                row.append(sum(skew.inner[:i + j]) + len([letter for letter in letters if letter <= j]))
            rows.append(tuple(row))
        return tuple(rows)

    def test_by_name(self):
        same_by_name(self, hive_of, skew=Skew((2, 1), ((1,), (2,))))
        same_by_name(self, skew_of, hive=((0, 3, 5), (2, 4), (3,)))


class Wrong(unittest.TestCase):
    def test_shapes(self):
        wrong = [(InvalidShape, shapes(12) + [(1,) * 5, (2, 2, 2, 2, 1), (8, 1, 1, 1, 1), (7, 6), (3, 3, 3, 4)])]
        for action in (hives, hive_count):
            look_for_errors(self, action, ("first", (3, 3, 3, 3), wrong), ("second", (12,), wrong), ("third", (6, 3, 2, 1), wrong))

    def test_skews(self):
        look_for_errors(self, hive_of, ("skew", Skew((1,), ((1,), (1, 2))), [(NotASkew, NO_SKEWS)]))

    def test_skews_that_are_no_ballot_fillings(self):
        wrong = [
            SKEW, Skew((1,), ((2,), (1,))), Skew((), ((2,),)), Skew((), ((1, 2), (2,))), Skew((1,), ((1, 2),)), Skew((1,), ((1,), (2, 2))),
            Skew((), ((1,), (2,), (3,), (4,), (5,))), Skew((1, 1, 1, 1), ((), (), (), (), (1,))), Skew((1,) * 5, ((),) * 5),
            Skew((12,), ((1,),)), Skew((13,), ((),)), Skew((6, 6), ((1,), ())), Skew((66,), ((),)), Skew((), ((12,),)), Skew((2,), ((1,), (1, 3))),
        ]
        for skew in wrong:
            look_at(self, raised(hive_of, skew), InvalidHoles, skew)
        for skew in (Skew((12,), ((),)), Skew((11,), ((1,),)), Skew((3, 3, 3, 3), ((),) * 4), Skew((3, 3, 3, 2), ((), (), (), (1,)))):
            self.assertEqual(skew_of(hive_of(skew)), skew)

    def test_hives(self):
        look_for_errors(self, skew_of, ("hive", ((0, 3, 5), (2, 4), (3,)), [(InvalidHive, NO_HIVES)]))

    def test_a_number_more_or_less(self):
        for first, second, third in FOUR + GREAT:
            own = hives(first, second, third)
            for hive in own:
                for i, j in product(range(len(hive)), repeat=2):
                    for change in (-1, 1) if j < len(hive[i]) else ():
                        changed = tuple(
                            tuple(number + change * ((i, j) == (row, at)) for at, number in enumerate(line)) for row, line in enumerate(hive))
                        error = raised(skew_of, changed)
                        if error is None:
                            self.assertEqual(hive_of(skew_of(changed)), changed)
                        else:
                            look_at(self, error, InvalidHive, changed)
                        inside = 0 < i and 0 < j and i + j < len(hive) - 1
                        if inside:
                            self.assertIs(error is None, changed in own)


if __name__ == "__main__":
    unittest.main()
