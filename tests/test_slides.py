"""Slides: point 19, and wordshapes.slides."""

import unittest
from random import Random

from tests import brute
from tests.samples import LONG, SHORT, TWELVE
from tests.test_skews import GREAT, SKEWS
from tests.wrong import HUGE, NO_SKEWS, NO_TABLES, NO_TUPLES, WORDS, look_for_errors, numbers, raised, same_by_name
from wordshapes.errors import InvalidHoles, InvalidRow, InvalidWord, NotASkew, NotATable, TooMany
from wordshapes.skews import Skew
from wordshapes.slides import beside, rectified, rectified_by, slid_in, slid_out, staircase
from wordshapes.tables import Table

ALL = [Skew(inner, rows) for inner, rows in SKEWS + GREAT]


def corners(shape):
    return [row for row, wide in enumerate(shape) if wide > (shape + (0,))[row + 1]]


def outers(shape):
    return [row for row, wide in enumerate(shape + (0,)) if row == 0 or wide < shape[row - 1]]


def some_order(shape, seed):
    """Rows at which the boxes of a shape can be taken away, one by one."""
    dice, rows = Random(seed), []
    while shape:
        row = dice.choice(corners(shape))
        rows.append(row)
        shape = tuple(wide - (at == row) for at, wide in enumerate(shape) if wide > (at == row))
    return tuple(rows)


class Slides(unittest.TestCase):
    def look_at(self, told, letters, inner_boxes):
        """Whether a skew has these letters and these holes, box by box."""
        self.assertEqual(brute.letters_of(told.rows, told.inner), letters)
        self.assertEqual(brute.boxes(told.inner), inner_boxes)
        self.assertEqual(told.outer, brute.shape_of_boxes(inner_boxes | set(letters)))

    def test_slides_in_and_back_out(self):
        for skew in ALL:
            for row in corners(skew.inner):
                hole = (row, skew.inner[row] - 1)
                letters, end = brute.slide(brute.letters_of(skew.rows, skew.inner), hole, 1)
                told = slid_in(skew, row)
                self.look_at(told, letters, brute.boxes(skew.inner) - {hole})
                self.assertEqual(slid_out(told, end[0]), skew)

    def test_slides_out_and_back_in(self):
        for skew in ALL:
            for row in outers(skew.outer) if sum(skew.inner) < 66 else ():
                place = (row, (skew.outer + (0,))[row])
                letters, hole = brute.slide(brute.letters_of(skew.rows, skew.inner), place, -1)
                told = slid_out(skew, row)
                self.look_at(told, letters, brute.boxes(skew.inner) | {hole})
                self.assertEqual(slid_in(told, hole[0]), skew)

    def test_by_place_and_by_name(self):
        for skew in ALL[-4:]:
            same_by_name(self, slid_in, skew=skew, row=len(skew.inner) - 1)
            same_by_name(self, slid_out, skew=skew, row=0)

    def test_ties_inward_take_the_letter_below(self):
        self.assertEqual(slid_in(Skew((1,), ((1,), (1,))), 0), Skew((), ((1, 1),)))
        self.assertEqual(slid_in(Skew((1,), ((2, 2), (2, 3))), 0), Skew((), ((2, 2, 2), (3,))))

    def test_ties_outward_take_the_letter_above(self):
        self.assertEqual(slid_out(Skew((1,), ((2,), (2,))), 1), Skew((2,), ((), (2, 2))))
        self.assertEqual(slid_out(Skew((), ((2, 2, 2), (3,))), 1), Skew((1,), ((2, 2), (2, 3))))

    def test_holes_without_letters_beside_them(self):
        self.assertEqual(slid_in(Skew((2,), ((),)), 0), Skew((1,), ((),)))
        self.assertEqual(slid_in(Skew((1,), ((),)), 0), Skew((), ()))
        self.assertEqual(slid_in(Skew((2, 2), ((), ())), 1), Skew((2, 1), ((), ())))
        self.assertEqual(slid_out(Skew((), ()), 0), Skew((1,), ((),)))
        self.assertEqual(slid_out(Skew((1,), ((),)), 1), Skew((1, 1), ((), ())))
        self.assertEqual(slid_out(Skew((), ((1,),)), 0), Skew((1,), ((1,),)))
        self.assertEqual(slid_out(Skew((), ((1,),)), 1), Skew((1,), ((), (1,))))

    def test_66_holes(self):
        for skew in ALL:
            if sum(skew.inner) == 66:
                for row in outers(skew.outer):
                    self.assertEqual(raised(slid_out, skew, row).limit, 66)
                    self.assertIs(raised(slid_out, skew, row).__class__, TooMany)
                self.assertIs(raised(slid_out, skew, -1).__class__, InvalidRow)
                self.assertEqual(sum(slid_in(skew, corners(skew.inner)[0]).inner), 65)
        self.assertEqual(slid_out(Skew((65,), ((1,),)), 0), Skew((66,), ((1,),)))


class Rectifying(unittest.TestCase):
    def test_rectified_in_several_orders(self):
        for skew in ALL:
            table = rectified(skew)
            self.assertIsInstance(table, Table)
            self.assertEqual(table.rows, brute.table_of(skew.word))
            for seed in range(4):
                self.assertEqual(rectified_by(skew, some_order(skew.inner, seed)), table)

    def test_slides_one_by_one(self):
        for skew in ALL:
            now = skew
            for row in some_order(skew.inner, 9):
                now = slid_in(now, row)
            self.assertEqual([now.inner, now.rows], [(), rectified(skew).rows])

    def test_by_place_and_by_name(self):
        skew = Skew((2, 1), ((1,), (1, 3), (2,)))
        same_by_name(self, rectified, skew=skew)
        same_by_name(self, rectified_by, skew=skew, rows=(1, 0, 0))

    def test_no_holes(self):
        skew = Skew((), ((1, 1), (2,)))
        self.assertEqual([rectified(skew).rows, rectified_by(skew, ()).rows], [skew.rows] * 2)
        self.assertEqual([rectified(Skew((), ())).rows, rectified_by(Skew((), ()), ()).rows], [(), ()])

    def test_orders_that_do_not_fit(self):
        skew = Skew((2, 1), ((1,), (1, 3), (2,)))
        for rows in ((0, 1, 0), (1, 0, 0)):
            self.assertEqual(rectified_by(skew, rows).rows, brute.table_of(skew.word))
        wrong = [
            (), (0,), (1, 0), (0, 0, 1), (0, 0, 0), (1, 1, 0), (0, 1, 1), (1, 0, 0, 0), (2, 0, 0), (1, 0, -1), (-1, 0, 0), (1, 0, False),
            (True, 0, 0), (1, False, 0), (1, 0, None), (1, 0, "0"), (1, 0, (0,)), ((1,), (0,), (0,)), (HUGE, 0, 0), (1, 0, 1j), (1, 0, [0]),
            "100", b"\x01\x00\x00", [1, 0, 0], {1: 1, 0: 0}, range(3), (0,) * 5000, {0: 1, 1: 2, 2: 0},
        ]
        fits = ("skew", skew, [(NotASkew, NO_SKEWS)])
        look_for_errors(self, rectified_by, fits, ("rows", (1, 0, 0), [(InvalidHoles, wrong + NO_TUPLES)]))


class Staircases(unittest.TestCase):
    def test_staircases(self):
        for word in SHORT + TWELVE:
            skew = same_by_name(self, staircase, word=word)
            long = len(word)
            wanted = {(long - 1 - at, at): letter for at, letter in enumerate(word)}
            self.assertEqual(brute.letters_of(skew.rows, skew.inner), wanted)
            self.assertEqual(skew.inner, tuple(range(long - 1, 0, -1)))
            self.assertEqual(skew.word, word)
            self.assertEqual(rectified(skew).rows, brute.table_of(word))

    def test_staircases_of_no_letter_and_of_one(self):
        self.assertEqual([staircase(()), staircase((7,))], [Skew((), ()), Skew((), ((7,),))])


class Beside(unittest.TestCase):
    def look_at(self, first, second):
        skew = beside(first, second)
        wide = len(first.rows[0]) if first.rows else 0
        self.assertEqual(skew.rows, second.rows + first.rows)
        self.assertEqual(skew.inner, (wide,) * len(second.rows) if wide else ())
        self.assertEqual(skew.word, first.word + second.word)
        self.assertEqual(rectified(skew), first.times(second))

    def test_tables_beside_one_another_and_their_product(self):
        small = [Table(rows) for size in range(4) for shape in brute.parted(size) for rows in brute.tables(shape, 3)]
        for first in small:
            for second in small:
                self.look_at(first, second)
        same_by_name(self, beside, first=small[-1], second=small[-2])

    def test_twelve_letters_and_one_more(self):
        for word in LONG:
            for at in range(13):
                self.look_at(Table.of(word[:at]), Table.of(word[at:]))
        for first, second in (((1,) * 7, (1,) * 6), ((1,), (2,) * 12), ((1,) * 12, (1,) * 12)):
            error = raised(beside, Table.of(first), Table.of(second))
            self.assertEqual([error.__class__, error.limit], [TooMany, 12])
        self.assertIs(raised(beside, Table.of((1,) * 12), ((1,),)).__class__, NotATable)


class Wrong(unittest.TestCase):
    def test_skews_and_rows(self):
        skew = ("skew", Skew((2, 2, 1), ((1,), (2,), (2, 3))), [(NotASkew, NO_SKEWS)])
        look_for_errors(self, slid_in, skew, ("row", 1, [(InvalidRow, numbers(1, 2))]))
        look_for_errors(self, slid_out, skew, ("row", 3, [(InvalidRow, numbers(0, 3) + [1, 2])]))
        look_for_errors(self, rectified, skew)

    def test_rows_of_skews_without_holes(self):
        for value in numbers(1, 0):
            self.assertIs(raised(slid_in, Skew((), ((1,),)), value).__class__, InvalidRow)
            self.assertIs(raised(slid_in, Skew((), ()), value).__class__, InvalidRow)

    def test_words(self):
        look_for_errors(self, staircase, ("word", (2, 1, 3), [(InvalidWord, WORDS)]))

    def test_tables(self):
        wrong = [(NotATable, NO_TABLES)]
        look_for_errors(self, beside, ("first", Table(((1,),)), wrong), ("second", Table(()), wrong))


if __name__ == "__main__":
    unittest.main()
