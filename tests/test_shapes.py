"""Shapes: points 6 and 7, and wordshapes.shapes."""

import unittest

from tests import brute
from tests.wrong import look_for_errors, numbers, raised, same_by_name, shapes as no_shapes
from wordshapes.errors import InvalidNumber, InvalidPlace, InvalidRow, InvalidShape, TooMany, UnlikeSizes
from wordshapes.shapes import (
    corner_rows, first_lighter, flipped, heavier, holds, hook, outer_rows, shapes_of, steps_down, with_box,
    with_columns, with_strips, without_box,
)

ALL = [shape for size in range(13) for shape in shapes_of(size)]
# Shapes of about 40 boxes, of all forms.
GREAT = [
    (40,), (1,) * 40, (20, 20), (2,) * 20, (8, 8, 8, 8, 8), (12, 10, 8, 6, 4), (8, 7, 6, 5, 4, 3, 2, 1), (39, 1), (38, 1, 1),
    (10,) + (1,) * 30, (20,) + (1,) * 20, (9, 9, 9, 9, 1, 1, 1), (7, 7, 6, 5, 5, 3, 3, 2, 1, 1),
]


class Listing(unittest.TestCase):
    def test_all_shapes_of_a_size(self):
        counts = [1, 1, 2, 3, 5, 7, 11, 15, 22, 30, 42, 56, 77]
        for size, count in enumerate(counts):
            told = same_by_name(self, shapes_of, size=size)
            self.assertEqual(told, tuple(sorted(brute.parted(size), reverse=True)))
            self.assertEqual(len(told), count)

    def test_empty_shape(self):
        self.assertEqual(shapes_of(0), ((),))
        self.assertEqual([flipped(()), corner_rows(()), outer_rows(()), with_box((), 0)], [(), (), (0,), (1,)])
        self.assertEqual([holds((), ()), holds((1,), ()), holds((), (1,)), heavier((), ())], [True, True, False, True])
        self.assertEqual([first_lighter((), ()), steps_down((), ())], [None, ((),)])
        self.assertEqual([with_strips((), 0), with_strips((), 2), with_columns((), 2)], [((),), ((2,),), ((1, 1),)])


class Boxes(unittest.TestCase):
    def test_flipped(self):
        for shape in ALL + GREAT:
            told = same_by_name(self, flipped, shape=shape)
            self.assertEqual(brute.boxes(told), {(column, row) for row, column in brute.boxes(shape)})
            self.assertEqual(flipped(told), shape)

    def test_holding_box_by_box(self):
        few = [shape for shape in ALL if sum(shape) < 8] + GREAT
        for outer in few:
            for inner in few:
                wanted = brute.boxes(inner) <= brute.boxes(outer)
                self.assertIs(holds(outer, inner), wanted)
        self.assertTrue(same_by_name(self, holds, outer=(3, 2), inner=(2, 2)))
        self.assertFalse(same_by_name(self, holds, outer=(2, 2), inner=(3, 2)))

    def test_corner_rows_and_outer_rows(self):
        for shape in ALL + GREAT:
            own = brute.boxes(shape)
            corners = [
                row for row, wide in enumerate(shape) if brute.shape_of_boxes(own - {(row, wide - 1)}) is not None
            ]
            self.assertEqual(same_by_name(self, corner_rows, shape=shape), tuple(corners))
            padded = shape + (0,)
            outers = [row for row in range(len(padded)) if brute.shape_of_boxes(own | {(row, padded[row])}) is not None]
            self.assertEqual(same_by_name(self, outer_rows, shape=shape), tuple(outers))

    def test_with_box_and_without_box_undo_each_other(self):
        for shape in ALL + GREAT:
            own = brute.boxes(shape)
            for row in corner_rows(shape):
                less = same_by_name(self, without_box, shape=shape, row=row)
                self.assertEqual(brute.boxes(less), own - {(row, shape[row] - 1)})
                self.assertEqual(with_box(less, row), shape)
            for row in outer_rows(shape) if sum(shape) < 40 else ():
                more = same_by_name(self, with_box, shape=shape, row=row)
                self.assertEqual(brute.boxes(more), own | {(row, (shape + (0,))[row])})
                self.assertEqual(without_box(more, row), shape)

    def test_hooks_box_by_box(self):
        for shape in ALL + GREAT:
            own = brute.boxes(shape)
            for row, column in own:
                behind = {(i, j) for i, j in own if (i == row and j >= column) or (i > row and j == column)}
                self.assertEqual(hook(shape, row, column), len(behind))
        self.assertEqual(same_by_name(self, hook, shape=(3, 2), row=0, column=1), 3)


class Weights(unittest.TestCase):
    def look_at_pair(self, shape, other):
        sums = [(sum(shape[:k]), sum(other[:k])) for k in range(1, sum(shape) + 2)]
        lighter = [k for k, (one, two) in enumerate(sums, start=1) if one < two]
        self.assertEqual(first_lighter(shape, other), lighter[0] if lighter else None)
        self.assertIs(heavier(shape, other), not lighter)
        steps = steps_down(shape, other)
        if lighter:
            self.assertIsNone(steps)
        else:
            self.look_at_steps(steps, shape, other)

    def look_at_steps(self, steps, shape, other):
        self.assertIsInstance(steps, tuple)
        self.assertEqual([steps[0], steps[-1]], [shape, other])
        if shape == other:
            self.assertEqual(steps, (shape,))
        for one, two in zip(steps, steps[1:]):
            self.assertIsInstance(two, tuple)
            self.assertTrue(brute.is_shape(two))
            (left,), (come,) = brute.boxes(one) - brute.boxes(two), brute.boxes(two) - brute.boxes(one)
            self.assertGreater(come[0], left[0])

    def test_heavier_first_lighter_and_steps_down_against_each_other(self):
        for size in range(11):
            for shape in shapes_of(size):
                for other in shapes_of(size):
                    self.look_at_pair(shape, other)

    def test_size_12_with_the_heaviest_and_the_lightest(self):
        for shape in shapes_of(12):
            for other in ((12,), (1,) * 12, (6, 6), (4, 4, 4), (3, 3, 2, 2, 1, 1), (6, 1, 1, 1, 1, 1, 1)):
                self.look_at_pair(shape, other)
                self.look_at_pair(other, shape)

    def test_40_boxes(self):
        for shape in GREAT:
            for other in GREAT:
                if sum(shape) == sum(other):
                    self.look_at_pair(shape, other)

    def test_by_place_and_by_name(self):
        for action in (heavier, first_lighter, steps_down):
            same_by_name(self, action, shape=(4, 1), other=(3, 2))
            same_by_name(self, action, shape=(3, 2), other=(4, 1))


class Strips(unittest.TestCase):
    def look_at(self, shape, size, wider):
        """All shapes that hold it with so many boxes more, of which no two stand in one column, in one row."""
        own = brute.boxes(shape)
        rows, columns = [], []
        for other in wider:
            more = brute.boxes(other) - own
            if own <= brute.boxes(other) and len(more) == size:
                rows += [other] if len({column for _, column in more}) == size else []
                columns += [other] if len({row for row, _ in more}) == size else []
        self.assertEqual(with_strips(shape, size), tuple(sorted(rows, reverse=True)))
        self.assertEqual(with_columns(shape, size), tuple(sorted(columns, reverse=True)))

    def test_strips_box_by_box(self):
        for size in range(9):
            for less in range(min(13 - size, 8)):
                for shape in shapes_of(less):
                    self.look_at(shape, size, shapes_of(less + size))

    def test_strips_of_great_shapes(self):
        for shape in GREAT:
            for size in range(9):
                if sum(shape) + size > 40:
                    self.assertEqual(raised(with_strips, shape, size).limit, 40)
        self.assertEqual(with_strips((32,), 8)[:2], ((40,), (39, 1)))
        self.assertEqual(len(with_strips((32,), 8)), 9)
        self.assertEqual(with_columns((1,) * 32, 8)[-1], (1,) * 40)
        self.assertEqual(with_strips((1,) * 39, 1), ((2,) + (1,) * 38, (1,) * 40))
        self.assertEqual([with_strips((20, 20), 0), with_columns((20, 20), 0)], [((20, 20),)] * 2)

    def test_by_place_and_by_name(self):
        for action in (with_strips, with_columns):
            same_by_name(self, action, shape=(2, 1), size=2)


class Wrong(unittest.TestCase):
    def test_sizes(self):
        look_for_errors(self, shapes_of, ("size", 12, [(InvalidNumber, numbers(0, 12))]))

    def test_shapes(self):
        wrong = [(InvalidShape, no_shapes(40))]
        for action in (flipped, corner_rows, outer_rows):
            look_for_errors(self, action, ("shape", (20, 19, 1), wrong))
        look_for_errors(self, holds, ("outer", (40,), wrong), ("inner", (2, 1), wrong))
        for action in (heavier, first_lighter, steps_down):
            look_for_errors(self, action, ("shape", (2, 1), wrong), ("other", (1, 1, 1), wrong))

    def test_rows_and_places(self):
        shape = ("shape", (3, 3, 1), [(InvalidShape, no_shapes(40))])
        look_for_errors(self, with_box, shape, ("row", 2, [(InvalidRow, numbers(0, 3) + [1])]))
        look_for_errors(self, without_box, shape, ("row", 2, [(InvalidRow, numbers(1, 2))]))
        row = ("row", 2, [(InvalidRow, numbers(0, 2))])
        look_for_errors(self, hook, shape, row, ("column", 0, [(InvalidPlace, numbers(0, 0) + [1, 2])]))

    def test_rows_of_the_empty_shape(self):
        look_for_errors(self, lambda row: with_box((), row), ("row", 0, [(InvalidRow, numbers(0, 0) + [1])]))
        for value in numbers(1, 0):
            self.assertIs(raised(without_box, (), value).__class__, InvalidRow)
            self.assertIs(raised(hook, (), value, "x").__class__, InvalidRow)

    def test_strips(self):
        for action in (with_strips, with_columns):
            shape = ("shape", (2, 1), [(InvalidShape, no_shapes(40))])
            look_for_errors(self, action, shape, ("size", 8, [(InvalidNumber, numbers(0, 8))]))

    def test_40_and_41_boxes(self):
        for action in (flipped, corner_rows, outer_rows):
            self.assertIsNone(raised(action, (40,)))
            self.assertIs(raised(action, (40, 1)).__class__, InvalidShape)
        self.assertEqual(with_box((39,), 0), (40,))
        for shape, row in (((40,), 0), ((40,), 1), ((1,) * 40, 40), ((20, 20), 2)):
            self.assertEqual(raised(with_box, shape, row).limit, 40)
        self.assertIs(raised(with_box, (20, 20), 1).__class__, InvalidRow)
        self.assertEqual(without_box((40,), 0), (39,))
        self.assertEqual(hook((40,), 0, 0), 40)

    def test_unlike_sizes_come_last(self):
        for action in (heavier, first_lighter, steps_down):
            self.assertIs(raised(action, (2, 1), (2, 2)).__class__, UnlikeSizes)
            self.assertIs(raised(action, (), (40,)).__class__, UnlikeSizes)
            self.assertIs(raised(action, (2, 1), (2, 0)).__class__, InvalidShape)

    def test_too_many_boxes_come_last(self):
        for action in (with_strips, with_columns):
            self.assertIs(raised(action, (33,), 8).__class__, TooMany)
            self.assertIs(raised(action, (40,), 1).__class__, TooMany)
            self.assertIs(raised(action, (40,), 9).__class__, InvalidNumber)
            self.assertIs(raised(action, (41,), 9).__class__, InvalidShape)


if __name__ == "__main__":
    unittest.main()
