"""Shapes of any size, as boxes, without a look for errors: skews have more boxes than shapes elsewhere."""

from math import factorial


def corners_of(shape):
    """The corner rows, ascending."""
    below = shape[1:] + (0,)
    return tuple([row for row in range(len(shape)) if shape[row] > below[row]])


def outers_of(shape):
    """The outer rows, ascending."""
    padded = shape + (0,)
    return tuple([row for row in range(len(padded)) if row == 0 or padded[row] < padded[row - 1]])


def box_more(shape, row):
    """The shape with a box more in an outer row."""
    if row == len(shape):
        return shape + (1,)
    return shape[:row] + (shape[row] + 1,) + shape[row + 1:]


def box_less(shape, row):
    """The shape with a box less in a corner row."""
    if shape[row] == 1:
        return shape[:row]
    return shape[:row] + (shape[row] - 1,) + shape[row + 1:]


def columns_of(shape):
    """How many boxes the columns have."""
    wide = shape[0] if shape else 0
    return tuple([len([part for part in shape if part > column]) for column in range(wide)])


def holes_ahead(inner, many):
    """How many holes of an inner shape stand ahead in each of so many rows."""
    return inner + (0,) * (many - len(inner))


def is_inside(inner, outer):
    """Whether all boxes of the inner shape are among those of the outer one."""
    return len(inner) <= len(outer) and all([part <= wide for part, wide in zip(inner, outer)])


def hook_of(shape, row, column):
    """How many boxes the hook of a box has."""
    below = [part for part in shape[row + 1:] if part > column]
    return shape[row] - column + len(below)


def product_of_hooks(shape):
    """The product of the numbers of boxes of all hooks."""
    hooks = 1
    for row, wide in enumerate(shape):
        for column in range(wide):
            hooks *= hook_of(shape, row, column)
    return hooks


def standard_count(shape):
    """How many standard tables a shape has: the orders of its size over the product of all hooks."""
    return factorial(sum(shape)) // product_of_hooks(shape)
