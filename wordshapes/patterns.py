"""Patterns: tables told by the shapes of their parts."""

from wordshapes.boxes import holes_ahead
from wordshapes.checks import check_listed, check_most, check_number, check_shape, is_between, is_integer
from wordshapes.counts import letter_count
from wordshapes.errors import InvalidPattern, InvalidRow, TooMany, UnlikeSizes
from wordshapes.limits import MOST_LETTER, MOST_LONG
from wordshapes.squares import shape_up_to
from wordshapes.strips import rows_of_stack
from wordshapes.tables import Table, check_table


def is_pattern(value):
    """Whether any value is a pattern."""
    if not isinstance(value, tuple) or not 1 <= len(value) <= MOST_LETTER:
        return False
    if not all([isinstance(row, tuple) and len(row) == many for many, row in enumerate(value, start=1)]):
        return False
    if not all([is_integer(number) and number >= 0 for row in value for number in row]):
        return False
    # No row rises then: its neighbours have a number of the row ahead between them.
    return sum(value[-1]) <= MOST_LONG and all([is_bounded(row, behind) for row, behind in zip(value, value[1:])])


def is_bounded(row, behind):
    """Whether each number of a row lies between the two of the next row beside which it stands."""
    return all([low <= number <= high for high, number, low in zip(behind, row, behind[1:])])


def check_pattern(value):
    """Raises an error for what is no pattern."""
    if not is_pattern(value):
        raise InvalidPattern(value)


def pattern_of(table, most):
    """The pattern of a table with letters up to a number."""
    check_table(table)
    check_most(most, table.word)
    return tuple([holes_ahead(shape_up_to(table.rows, letter), letter) for letter in range(1, most + 1)])


def table_of_pattern(pattern):
    """The table of a pattern."""
    check_pattern(pattern)
    shapes = [tuple([number for number in row if number]) for row in pattern]
    return Table(rows_of_stack([()] + shapes))


def pattern_toggled(pattern, row):
    """The pattern toggled at a number."""
    check_pattern(pattern)
    if not is_between(row, 1, len(pattern) - 1):
        raise InvalidRow(row)
    ahead = pattern[row - 2] if row > 1 else ()
    changed = row_toggled(ahead, pattern[row - 1], pattern[row])
    return pattern[:row - 1] + (changed,) + pattern[row:]


def row_toggled(ahead, row, behind):
    """A row between two others, toggled."""
    # Where the row ahead has no number, that of the next row alone is the bound.
    highs = [min(pair) for pair in zip(behind, behind[:1] + ahead)]
    lows = [max(pair) for pair in zip(behind[1:], ahead + behind[-1:])]
    return tuple([high + low - number for high, low, number in zip(highs, lows, row)])


def pattern_sum(pattern, other):
    """The sum of two patterns."""
    check_pattern(pattern)
    check_pattern(other)
    if len(pattern) != len(other):
        raise UnlikeSizes()
    if sum(pattern[-1]) + sum(other[-1]) > MOST_LONG:
        raise TooMany(MOST_LONG)
    return tuple([tuple([own + more for own, more in zip(row, beside)]) for row, beside in zip(pattern, other)])


def pattern_count(shape, most):
    """How many patterns of so many rows have a shape."""
    check_shape(shape)
    check_number(most, 1, MOST_LETTER)
    return letter_count(shape, most)


def patterns(shape, most):
    """All patterns of so many rows with a shape, ascending."""
    many = pattern_count(shape, most)
    check_listed(many)
    if many == 0:
        return ()
    begun = [(holes_ahead(shape, most),)]
    for _ in range(most - 1):
        begun = [(row,) + rows for rows in begun for row in rows_ahead(rows[0])]
    return tuple(sorted(begun))


def rows_ahead(behind):
    """All rows that can stand ahead of a row in a pattern."""
    begun = [()]
    for high, low in zip(behind, behind[1:]):
        begun = [row + (number,) for row in begun for number in range(low, high + 1)]
    return begun
