"""Tells integers, letters, words, shapes and rows from other values, and raises the errors for these."""

from wordshapes.boxes import holes_ahead
from wordshapes.errors import InvalidAmounts, InvalidIndex, InvalidLetter, InvalidNumber, InvalidShape, InvalidWord
from wordshapes.errors import TooMany
from wordshapes.limits import MOST_LETTER, MOST_LISTED, MOST_LONG


def is_integer(value):
    """Whether it is one; True and False, which Python takes for integers, are none."""
    return isinstance(value, int) and not isinstance(value, bool)


def is_between(value, low, high):
    """Whether it is an integer from the one number to the other one."""
    return is_integer(value) and low <= value <= high


def is_index(value, things):
    """Whether it is an index of a row of things."""
    return is_between(value, 0, len(things) - 1)


def is_among(value, numbers):
    """Whether it is one of these integers."""
    return is_integer(value) and value in numbers


def is_letter(value):
    """Whether it is a letter."""
    return is_between(value, 1, MOST_LETTER)


def is_lettered(value):
    """Whether it is a tuple of letters, however many."""
    return isinstance(value, tuple) and all([is_letter(letter) for letter in value])


def is_word(value):
    """Whether it is a word."""
    return is_lettered(value) and len(value) <= MOST_LONG


def rises_slowly(row):
    """Whether no element of a row of numbers or tuples is less than the one ahead of it."""
    return all([ahead <= behind for ahead, behind in zip(row, row[1:])])


def is_shape(value, most):
    """Whether it is a shape of so many boxes at most."""
    if not isinstance(value, tuple) or not all([is_integer(part) and part > 0 for part in value]):
        return False
    return rises_slowly(value[::-1]) and sum(value) <= most


def are_amounts(value):
    """Whether it is a tuple of numbers of letters 1, 2 and so on."""
    if not isinstance(value, tuple) or len(value) > MOST_LETTER:
        return False
    return all([is_integer(amount) and amount >= 0 for amount in value])


def is_filled(inner, rows):
    """Whether the rows of letters make a skew with this inner shape, a table where it is ()."""
    if not isinstance(rows, tuple) or not all([is_lettered(row) for row in rows]):
        return False
    if sum([len(row) for row in rows]) > MOST_LONG or len(rows) < len(inner):
        return False
    holes = holes_ahead(inner, len(rows))
    outer = tuple([wide + len(row) for wide, row in zip(holes, rows)])
    if not is_shape(outer, sum(outer)) or not all([rises_slowly(row) for row in rows]):
        return False
    # The outer shape is one, so above each letter there is a letter or a hole.
    return all([
        rows[index][column - holes[index]] < rows[index + 1][column - holes[index + 1]]
        for index in range(len(rows) - 1)
        for column in range(holes[index], outer[index + 1])
    ])


def check_word(value):
    """Raises an error for what is no word."""
    if not is_word(value):
        raise InvalidWord(value)


def check_letter(value):
    """Raises an error for what is no letter."""
    if not is_letter(value):
        raise InvalidLetter(value)


def check_low_letter(value):
    """Raises an error for what is no letter that has a next one."""
    if not is_between(value, 1, MOST_LETTER - 1):
        raise InvalidLetter(value)


def check_shape(value, most=MOST_LONG):
    """Raises an error for what is no shape of so many boxes at most."""
    if not is_shape(value, most):
        raise InvalidShape(value)


def check_number(value, low, high):
    """Raises an error for what is no integer from the one number to the other one."""
    if not is_between(value, low, high):
        raise InvalidNumber(value)


def check_most(value, letters):
    """Raises an error for what is no letter, or less than one of these letters."""
    check_number(value, max([1, *letters]), MOST_LETTER)


def check_amounts(value):
    """Raises an error for what is no tuple of numbers of letters."""
    if not are_amounts(value):
        raise InvalidAmounts(value)


def check_index(value, many):
    """Raises an error for what is no index of so many things."""
    if not is_between(value, 0, many - 1):
        raise InvalidIndex(value)


def check_listed(many):
    """Raises an error if so many things are too many to be listed."""
    if many > MOST_LISTED:
        raise TooMany(MOST_LISTED)
