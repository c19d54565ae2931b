"""Words and arrays, and the pairs of tables to which they belong."""

from wordshapes.checks import check_most, check_word, is_integer, is_lettered, rises_slowly
from wordshapes.errors import InvalidArray, InvalidRows, NotStandard, UnlikeShapes
from wordshapes.limits import MOST_LETTER, MOST_LONG
from wordshapes.tables import Table, check_table, rows_with, rows_without


def pair_of(word):
    """The first and the second table of a word."""
    check_word(word)
    return grown(list(enumerate(word, start=1)), rows_with)


def grown(pairs, step):
    """The table into which the step puts the lower letters of pairs, and that which has the upper ones at new boxes.

    The step tells the rows of a table into which a letter has been put, and the row of the new box.
    """
    first, second = (), ()
    for upper, lower in pairs:
        first, row = step(first, lower)
        if row == len(second):
            second = second + ((upper,),)
        else:
            second = second[:row] + (second[row] + (upper,),) + second[row + 1:]
    return Table(first), Table(second)


def word_of(first, second):
    """The word with these first and second tables."""
    check_pair(first, second)
    if not second.standard:
        raise NotStandard()
    return tuple([lower for _, lower in unwound(first, second)])


def check_pair(first, second):
    """Raises an error if they are no tables, or no tables of one shape."""
    check_table(first)
    check_table(second)
    if first.shape != second.shape:
        raise UnlikeShapes()


def unwound(first, second):
    """The array with these tables."""
    left, pairs = first.rows, []
    for upper, row in boxes_by_age(second):
        left, lower = rows_without(left, row)
        pairs.append((upper, lower))
    return tuple(pairs[::-1])


def boxes_by_age(second):
    """The letters of a second table with their rows, the newest box first."""
    # Like letters became new from the left to the right, and one further right stands higher up.
    boxes = [(letter, -row) for row, letters in enumerate(second.rows) for letter in letters]
    return [(letter, -above) for letter, above in sorted(boxes, reverse=True)]


def pair_of_array(array):
    """The first and the second table of an array."""
    check_array(array)
    return grown(array, rows_with)


def array_of(first, second):
    """The array with these first and second tables."""
    check_pair(first, second)
    return unwound(first, second)


def exchanged(array):
    """The array of the pairs with both letters exchanged."""
    check_array(array)
    return tuple(sorted([(lower, upper) for upper, lower in array]))


def check_array(value):
    """Raises an error for what is no array."""
    if not is_array(value):
        raise InvalidArray(value)


def is_array(value):
    """Whether it is an array."""
    if not isinstance(value, tuple) or len(value) > MOST_LONG:
        return False
    return all([is_lettered(pair) and len(pair) == 2 for pair in value]) and rises_slowly(value)


def array_of_matrix(matrix):
    """The array that has each pair of a row and a column as often as the number there tells."""
    if not is_matrix(matrix):
        raise InvalidRows(matrix)
    return tuple([
        (upper, lower)
        for upper, row in enumerate(matrix, start=1)
        for lower, often in enumerate(row, start=1)
        for _ in range(often)
    ])


def is_matrix(value):
    """Whether it is a matrix whose array has its length in the limit."""
    if not isinstance(value, tuple) or not 1 <= len(value) <= MOST_LETTER:
        return False
    if not all([isinstance(row, tuple) and 1 <= len(row) <= MOST_LETTER for row in value]):
        return False
    numbers = [number for row in value for number in row]
    if not all([is_integer(number) and number >= 0 for number in numbers]):
        return False
    return all([len(row) == len(value[0]) for row in value]) and sum(numbers) <= MOST_LONG


def matrix_of(array, rows, columns):
    """The matrix of so many rows and columns with an array."""
    check_array(array)
    check_most(rows, [upper for upper, _ in array])
    check_most(columns, [lower for _, lower in array])
    return tuple([
        tuple([array.count((upper, lower)) for lower in range(1, columns + 1)])
        for upper in range(1, rows + 1)
    ])
