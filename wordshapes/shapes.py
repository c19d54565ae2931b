"""Shapes of up to 40 boxes: their rows, their hooks, which is heavier, and strips."""

from wordshapes.boxes import box_less, box_more, columns_of, corners_of, hook_of, is_inside, outers_of
from wordshapes.checks import check_number, check_shape, is_among, is_between, is_index
from wordshapes.errors import InvalidPlace, InvalidRow, TooMany, UnlikeSizes
from wordshapes.limits import MOST_BOXES, MOST_DEGREE, MOST_LONG
from wordshapes.strips import strips_on


def shapes_of(size):
    """All shapes of a size, descending."""
    check_number(size, 0, MOST_LONG)
    begun = [((), size)]
    for _ in range(size):
        begun = [longer for parts, left in begun for longer in with_part(parts, left)]
    return tuple([parts for parts, _ in begun])


def with_part(parts, left):
    """What can be made of the parts of a shape, so many boxes being left, by one part more; descending."""
    if left == 0:
        return [(parts, 0)]
    widest = min(parts[-1], left) if parts else left
    return [(parts + (part,), left - part) for part in range(widest, 0, -1)]


def flipped(shape):
    """The shape that has the columns as rows."""
    check_shape(shape, MOST_BOXES)
    return columns_of(shape)


def holds(outer, inner):
    """Whether all boxes of the inner shape are among those of the outer one."""
    check_shape(outer, MOST_BOXES)
    check_shape(inner, MOST_BOXES)
    return is_inside(inner, outer)


def corner_rows(shape):
    """The rows whose last box can be taken away, ascending."""
    check_shape(shape, MOST_BOXES)
    return corners_of(shape)


def outer_rows(shape):
    """The rows behind which a box can be put, ascending."""
    check_shape(shape, MOST_BOXES)
    return outers_of(shape)


def with_box(shape, row):
    """The shape with a box more in this row."""
    check_shape(shape, MOST_BOXES)
    if not is_among(row, outers_of(shape)):
        raise InvalidRow(row)
    if sum(shape) == MOST_BOXES:
        raise TooMany(MOST_BOXES)
    return box_more(shape, row)


def without_box(shape, row):
    """The shape with a box less in this row."""
    check_shape(shape, MOST_BOXES)
    if not is_among(row, corners_of(shape)):
        raise InvalidRow(row)
    return box_less(shape, row)


def heavier(shape, other):
    """Whether the first shape is at least as heavy as the other one."""
    return first_lighter(shape, other) is None


def first_lighter(shape, other):
    """The least k such that the first k elements of the first shape have a lesser sum; None if there is none."""
    check_shape(shape, MOST_BOXES)
    check_shape(other, MOST_BOXES)
    if sum(shape) != sum(other):
        raise UnlikeSizes()
    for many in range(1, len(shape) + 1):
        if sum(shape[:many]) < sum(other[:many]):
            return many
    return None


def steps_down(shape, other):
    """Shapes from the first one to the other one, box by box downwards; None if it is not at least as heavy."""
    if not heavier(shape, other):
        return None
    steps = [shape]
    while steps[-1] != other:
        steps.append(step_towards(steps[-1], other))
    return tuple(steps)


def step_towards(shape, other):
    """The shape with a box moved to a lower row, still at least as heavy as the other, lighter shape."""
    unlike = [row for row in range(len(shape)) if shape[row] != other[row]][0]
    # The first row that differs is longer here. The last row as long as it can give a box,
    # and the first one below that is shorter by two can take it: down to there all
    # sums of first elements are greater than those of the other shape.
    giving = max([row for row in range(len(shape)) if shape[row] == shape[unlike]])
    padded = shape + (0,)
    taking = min([row for row in range(len(padded)) if padded[row] <= shape[giving] - 2])
    return box_more(box_less(shape, giving), taking)


def with_strips(shape, size):
    """All shapes that come from it by a row strip of so many boxes, descending."""
    check_strip(shape, size)
    return strips_on(shape, size)


def with_columns(shape, size):
    """All shapes that come from it by a column strip of so many boxes, descending."""
    check_strip(shape, size)
    turned = [columns_of(longer) for longer in strips_on(columns_of(shape), size)]
    return tuple(sorted(turned, reverse=True))


def check_strip(shape, size):
    """Raises an error if no strip of so many boxes can be looked for."""
    check_shape(shape, MOST_BOXES)
    check_number(size, 0, MOST_DEGREE)
    if sum(shape) + size > MOST_BOXES:
        raise TooMany(MOST_BOXES)


def hook(shape, row, column):
    """How many boxes the hook of a box has."""
    check_shape(shape, MOST_BOXES)
    if not is_index(row, shape):
        raise InvalidRow(row)
    if not is_between(column, 0, shape[row] - 1):
        raise InvalidPlace(column)
    return hook_of(shape, row, column)
