"""Skews: point 18, and wordshapes.skews."""

import unittest
from itertools import product

from tests import brute
from tests.wrong import (
    DEEP, HUGE, NO_TUPLES, TABLE, Stranger, look_for_errors, raised, same_by_name, shapes as no_shapes,
)
from wordshapes.errors import InvalidRows, InvalidShape
from wordshapes.skews import Skew
from wordshapes.tables import Table

LINES = [line for long in range(3) for line in brute.words(long, 3)]
INNERS = [(), (1,), (2,), (1, 1), (2, 1), (3,), (2, 2), (3, 1)]
SKEWS = [
    (inner, rows)
    for inner in INNERS for many in range(len(inner), 4)
    for rows in product(LINES, repeat=many) if sum(map(len, rows)) < 5 and brute.is_skew(inner, rows)
]
STAIRS = tuple(range(11, 0, -1))
GREAT = [
    (STAIRS, tuple((k,) for k in range(1, 13))), (STAIRS, ((),) * 11), (STAIRS, ((),) * 11 + ((5,),)), ((66,), ((),)), ((1,) * 66, ((),) * 66),
    ((66,), ((12,) * 12,)), ((1,) * 66, ((),) * 66 + ((1,), (2,))), ((33, 33), ((1, 1), (2,))), ((54, 12), ((1,) * 6, (1,) * 6)),
    ((11,) * 6, ((1,), (2,), (3,), (4,), (5,), (6,))), ((11,) * 6, ((),) * 6 + ((7,) * 11, (8,))), ((5, 5), ((), (), (1, 2, 3), (2, 3))),
    ((2, 2), ((1,), (2,), (1, 1), (2, 2))), ((3, 1), ((), (), (1,))), ((4, 2, 1), ((2, 2, 2), (1, 1, 5), (3, 3), (4,))),
]

NO_ROWS = [value for value in NO_TUPLES if value is not TABLE] + [
    TABLE, (), (1,), (1, 2), ((2,), [1, 3]), ((2,), (1, 3), [2]), [(2,), (1, 3)], ((2,), (3, 1)), ((2, 1), (1,)), ((2,), (1, 2)),
    ((2,), (1, 1)), ((2,), (1, 3, 4)), ((), (1, 3)), ((), ()), ((2,), ()), ((2,), (1, 3), ()), ((2,), (), (1,)), ((2,), (2,), (1,)),
    ((2,), (2,), (2,)), ((2,), (1,), (2, 3)), ((0,),), ((13,),), ((True,),), ((None,),), (None,), (("2",),), ("2",), ((2,), None),
    ((2,), (1, True)), ((HUGE,),), ((-HUGE,),), ((2,), (1, HUGE)), ((1,) * 13,), ((1,) * 6, (2,) * 7), ((2,),) + ((),) * 5000, (((2,),),),
    ({},), (Stranger(),), ((Stranger(),),), ((2,), ("1",)), (b"\x02",), DEEP,
]


class Making(unittest.TestCase):
    def test_attributes(self):
        for inner, rows in SKEWS + GREAT:
            skew = same_by_name(self, Skew, inner=inner, rows=rows)
            self.assertEqual((skew.inner, skew.rows), (inner, rows))
            own = brute.boxes(inner) | set(brute.letters_of(rows, inner))
            self.assertEqual(skew.outer, brute.shape_of_boxes(own))
            letters = [letter for row in reversed(rows) for letter in row]
            self.assertEqual(skew.word, tuple(letters))
            self.assertEqual(skew.amounts, tuple(letters.count(k) for k in range(1, max(letters, default=0) + 1)))
            self.assertEqual(skew.text, self.text(inner, rows))

    def text(self, inner, rows):
        holes = list(inner) + [0] * (len(rows) - len(inner))
        return "/".join(".".join(["_"] * wide + [str(k) for k in row]) for wide, row in zip(holes, rows)) or "-"

    def test_just_the_rows_of_skews_are_taken(self):
        for inner in INNERS:
            for many in range(4):
                for rows in product(LINES, repeat=many):
                    if sum(map(len, rows)) < (5 if many < 3 else 4):
                        self.look_at(inner, rows)

    def look_at(self, inner, rows):
        if brute.is_skew(inner, rows):
            self.assertEqual(Skew(inner, rows).rows, rows)
        else:
            error = raised(Skew, inner, rows)
            self.assertIs(error.__class__, InvalidRows, (inner, rows))
            self.assertIs(error.given, rows)

    def test_holes_alone(self):
        for inner, text in (((1,), "_"), ((3, 1), "_._._/_"), ((1, 1, 1), "_/_/_"), ((), "-")):
            skew = Skew(inner, ((),) * len(inner))
            self.assertEqual([skew.outer, skew.word, skew.amounts, skew.text], [inner, (), (), text])

    def test_letters_alone(self):
        for size in range(5):
            for shape in brute.parted(size):
                for rows in brute.tables(shape, 3):
                    skew, table = Skew((), rows), Table(rows)
                    self.assertEqual(
                        [skew.outer, skew.word, skew.amounts, skew.text], [table.shape, table.word, table.amounts, table.text]
                    )

    def test_rows_without_letters(self):
        skew = Skew((3, 3, 1), ((), (), (12, 12), (1,)))
        self.assertEqual([skew.outer, skew.word, skew.text], [(3, 3, 3, 1), (1, 12, 12), "_._._/_._._/_.12.12/1"])
        self.assertIs(raised(Skew, (2, 1), ((), (), ())).__class__, InvalidRows)
        self.assertIs(raised(Skew, (2, 1), ((),)).__class__, InvalidRows)

    def test_letters_under_holes_may_be_any(self):
        self.assertEqual(Skew((1,), ((1,), (12,))).word, (12, 1))
        self.assertEqual(Skew((2, 1), ((1,), (5,), (5,))).word, (5, 5, 1))
        self.assertIs(raised(Skew, (1,), ((5,), (1, 5))).__class__, InvalidRows)
        self.assertIs(raised(Skew, (1, 1), ((5,), (5,))).__class__, InvalidRows)

    def test_66_and_67_holes(self):
        for inner in ((66,), (1,) * 66, (33, 33), STAIRS):
            self.assertEqual(Skew(inner, ((),) * len(inner)).outer, inner)
        for inner in ((67,), (1,) * 67, (34, 33), (12,) + STAIRS[:-1]):
            error = raised(Skew, inner, ((),) * len(inner))
            self.assertIs(error.__class__, InvalidShape)
            self.assertIs(error.given, inner)

    def test_12_and_13_letters(self):
        self.assertEqual(Skew((6,), ((1,) * 6, (1,) * 6)).word, (1,) * 12)
        self.assertIs(raised(Skew, (6,), ((1,) * 7, (1,) * 6)).__class__, InvalidRows)
        self.assertIs(raised(Skew, (6,), ((1,) * 6, (1,) * 7)).__class__, InvalidRows)
        self.assertIs(raised(Skew, (7,), ((1,) * 6, (1,) * 7)).__class__, InvalidRows)

    def test_equality(self):
        bent, like = Skew((1,), ((2,), (1, 3))), Skew((1,), ((2,), (1, 3)))
        self.assertTrue(bent == like and not bent != like)
        for other in (Skew((1,), ((2,), (1, 4))), Skew((), ((2,), (3,))), Skew((1,), ((2,), (1,))), Skew((1, 1), ((2,), (3,)))):
            self.assertTrue(bent != other and not bent == other)
        self.assertFalse(Skew((1,), ((1,),)) == Skew((), ((1,),)))
        self.assertFalse(Skew((1,), ((),)) == Skew((), ()))
        for value in (bent.rows, bent.inner, bent.text, (bent.inner, bent.rows), None, True, 0, [], {}, object(), Skew):
            self.assertIs(bent == value, False)
            self.assertIs(bent != value, True)
        self.assertIs(bent == Stranger(), False)
        table = Table(((1, 1), (2,)))
        self.assertIs(Skew((), table.rows) == table, False)
        self.assertIs(table == Skew((), table.rows), False)
        self.assertTrue(bent and Skew((), ()))


class Wrong(unittest.TestCase):
    def test_inner_shapes_and_rows(self):
        inner = ("inner", (1,), [(InvalidShape, no_shapes(66))])
        look_for_errors(self, Skew, inner, ("rows", ((2,), (1, 3)), [(InvalidRows, NO_ROWS)]))

    def test_rows_without_holes(self):
        inner = ("inner", (), [(InvalidShape, no_shapes(66))])
        wrong = [((1, 1), (2, 2, 2)), ((1, 2), (2, 2)), ((1, 2), (3,), ()), ((),), ((2, 1),)]
        look_for_errors(self, Skew, inner, ("rows", (), [(InvalidRows, wrong)]))


if __name__ == "__main__":
    unittest.main()
