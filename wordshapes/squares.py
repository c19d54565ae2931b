"""Squares: the shapes of all beginnings of the standing of a word."""

from wordshapes.checks import is_shape, is_word
from wordshapes.errors import InvalidPair
from wordshapes.limits import MOST_LONG
from wordshapes.tables import rows_with
from wordshapes.words import standing


def square_of(word):
    """The square of a word."""
    order = standing(word)
    rows, square = (), [shapes_up_to((), len(order))]
    for letter in order:
        rows, _ = rows_with(rows, letter)
        square.append(shapes_up_to(rows, len(order)))
    return tuple(square)


def shapes_up_to(rows, most):
    """The shapes of the parts of a table with letters up to 0, 1 and so on, to the greatest one."""
    return tuple([shape_up_to(rows, letter) for letter in range(most + 1)])


def shape_up_to(rows, letter):
    """The shape of the part of a table with letters up to this one, the table of just these letters."""
    lengths = [len([one for one in row if one <= letter]) for row in rows]
    return tuple([length for length in lengths if length])


def is_square(square):
    """Whether any value is the square of some word."""
    return order_told(square) is not None


def order_of(square):
    """The standing of the words with a square."""
    order = order_told(square)
    if order is None:
        raise InvalidPair(square)
    return order


def order_told(square):
    """The order that the sizes of the shapes in any value tell, if it is the square of this order; otherwise None."""
    if not is_square_of_shapes(square):
        return None
    sizes = [[sum(shape) for shape in row] for row in square]
    # From a row to the next one a box is new in each shape from the index of the new letter on.
    order = tuple([
        len([index for index, size in enumerate(row) if size == ahead[index]])
        for ahead, row in zip(sizes, sizes[1:])
    ])
    return order if is_word(order) and square_of(order) == square else None


def is_square_of_shapes(value):
    """Whether it is a tuple of tuples of shapes, as many in each as there are tuples, and not too many."""
    if not isinstance(value, tuple) or not 1 <= len(value) <= MOST_LONG + 1:
        return False
    if not all([isinstance(row, tuple) and len(row) == len(value) for row in value]):
        return False
    return all([is_shape(shape, MOST_LONG) for row in value for shape in row])


def sides(square):
    """The last row of a square and the last elements of all rows."""
    if not is_square(square):
        raise InvalidPair(square)
    return square[-1], tuple([row[-1] for row in square])
