"""Shapes of any size, as boxes, without a look for errors: skews have more boxes than shapes elsewhere."""


def corners_of(shape):
    """The corner rows, ascending."""
    below = shape[1:] + (0,)
    return tuple([row for row in range(len(shape)) if shape[row] > below[row]])


def outers_of(shape):
    """The outer rows, ascending."""
    padded = shape + (0,)
    return tuple([row for row in range(len(padded)) if row == 0 or padded[row] < padded[row - 1]])


def box_more(shape, row):
    """The shape with a box more in an outer row."""
    if row == len(shape):
        return shape + (1,)
    return shape[:row] + (shape[row] + 1,) + shape[row + 1:]


def box_less(shape, row):
    """The shape with a box less in a corner row."""
    if shape[row] == 1:
        return shape[:row]
    return shape[:row] + (shape[row] - 1,) + shape[row + 1:]


def columns_of(shape):
    """How many boxes the columns have."""
    wide = shape[0] if shape else 0
    return tuple([len([part for part in shape if part > column]) for column in range(wide)])


def holes_ahead(inner, many):
    """How many holes of an inner shape stand ahead in each of so many rows."""
    return inner + (0,) * (many - len(inner))
