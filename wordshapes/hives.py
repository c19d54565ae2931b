"""Hives: triangles of numbers to which ballot fillings belong, one by one."""

from wordshapes.ballots import ballot_skews, is_ballot
from wordshapes.checks import check_listed, is_integer, is_shape
from wordshapes.errors import InvalidHive, InvalidHoles, InvalidShape
from wordshapes.limits import MOST_LONG, MOST_ROWS
from wordshapes.skews import check_skew


def hives(first, second, third):
    """All hives of three shapes, ascending."""
    skews = skews_of_sides(first, second, third)
    check_listed(len(skews))
    return tuple(sorted([hive_from(skew) for skew in skews]))


def hive_count(first, second, third):
    """How many hives three shapes have."""
    return len(skews_of_sides(first, second, third))


def skews_of_sides(first, second, third):
    """The ballot fillings to which the hives of any values belong, if these are shapes with few elements."""
    for shape in (first, second, third):
        if not is_side(shape):
            raise InvalidShape(shape)
    return ballot_skews(third, first, second)


def is_side(value):
    """Whether it is a shape that can be a side of a hive."""
    return is_shape(value, MOST_LONG) and len(value) <= MOST_ROWS


def hive_of(skew):
    """The hive of a ballot filling."""
    check_skew(skew)
    if not is_side(skew.outer) or not is_ballot(skew.word):
        raise InvalidHoles(skew)
    return hive_from(skew)


def hive_from(skew):
    """The hive of what is known to be a ballot filling."""
    # In its first rows a ballot filling has no letter above the number of these rows: so neither of the other
    # shapes has more elements than the outer one.
    most = max(1, len(skew.outer))
    return tuple([
        tuple([boxes_up_to(skew, row + column, column) for column in range(most - row + 1)])
        for row in range(most + 1)
    ])


def boxes_up_to(skew, many, letter):
    """How many holes and letters up to this one the first so many rows of a skew have."""
    letters = [one for row in skew.rows[:many] for one in row if one <= letter]
    return sum(skew.inner[:many]) + len(letters)


def skew_of(hive):
    """The ballot filling to which a hive belongs."""
    fitting = [skew for skew in skews_beside(hive) if hive_from(skew) == hive]
    if not fitting:
        raise InvalidHive(hive)
    return fitting[0]


def skews_beside(value):
    """The ballot fillings of the shapes that the sides of any value tell; none if it is no triangle of numbers."""
    if not is_triangle(value):
        return []
    first = steps_of([row[0] for row in value])
    second = steps_of([row[-1] for row in value[::-1]])
    third = steps_of(list(value[0]))
    if not all([is_side(shape) for shape in (first, second, third)]):
        return []
    return ballot_skews(third, first, second)


def is_triangle(value):
    """Whether it is a tuple of tuples of integers, each one shorter by one than the one ahead, the last one of one."""
    if not isinstance(value, tuple) or not all([isinstance(row, tuple) for row in value]):
        return False
    if [len(row) for row in value] != list(range(len(value), 0, -1)):
        return False
    return 2 <= len(value) <= MOST_ROWS + 1 and all([is_integer(number) for row in value for number in row])


def steps_of(sums):
    """How much each sum is more than the one ahead of it, without zeros at the end."""
    steps = [behind - ahead for ahead, behind in zip(sums, sums[1:])]
    while steps and steps[-1] == 0:
        steps.pop()
    return tuple(steps)
