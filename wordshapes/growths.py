"""Growths: standard tables told by the rows in which they grow, their numbers and their order."""

from wordshapes.boxes import box_less, box_more, corners_of, outers_of, standard_count
from wordshapes.checks import check_index, check_shape, is_among
from wordshapes.errors import InvalidGrowth, NotStandard
from wordshapes.limits import MOST_BOXES, MOST_LONG
from wordshapes.tables import Table, check_table


def growth_of(table):
    """The rows in which 1, 2 and so on stand in a standard table."""
    check_table(table)
    if not table.standard:
        raise NotStandard()
    row_of = {letter: row for row, letters in enumerate(table.rows) for letter in letters}
    return tuple([row_of[letter] for letter in range(1, len(row_of) + 1)])


def table_of(growth):
    """The standard table with a growth."""
    check_growth(growth, MOST_LONG)
    rows = len(shape_grown(growth))
    return Table(tuple([
        tuple([letter for letter, at in enumerate(growth, start=1) if at == row])
        for row in range(rows)
    ]))


def check_growth(value, longest):
    """Raises an error for what is no growth of so many numbers at most."""
    if not is_growth(value, longest):
        raise InvalidGrowth(value)


def is_growth(value, longest):
    """Whether it is a growth of so many numbers at most."""
    if not isinstance(value, tuple) or len(value) > longest:
        return False
    shape = ()
    for row in value:
        if not is_among(row, outers_of(shape)):
            return False
        shape = box_more(shape, row)
    return True


def shape_grown(growth):
    """The shape of a growth."""
    shape = ()
    for row in growth:
        shape = box_more(shape, row)
    return shape


def growth_count(shape):
    """How many growths a shape has."""
    check_shape(shape, MOST_BOXES)
    return standard_count(shape)


def growth_at(shape, index):
    """The growth of a shape with an index, ascending."""
    check_shape(shape, MOST_BOXES)
    check_index(index, standard_count(shape))
    ways, now, growth = ways_to(shape), (), ()
    while now != shape:
        for row in rows_on_the_way(now, ways):
            behind = ways[box_more(now, row)]
            if index < behind:
                growth = growth + (row,)
                break
            index -= behind
        now = box_more(now, growth[-1])
    return growth


def growth_index(growth):
    """The index of a growth among those of its shape, ascending."""
    check_growth(growth, MOST_BOXES)
    ways, now, index = ways_to(shape_grown(growth)), (), 0
    for taken in growth:
        index += sum([ways[box_more(now, row)] for row in rows_on_the_way(now, ways) if row < taken])
        now = box_more(now, taken)
    return index


def ways_to(shape):
    """For each shape that a shape holds, in how many ways it grows, box by box, to be that one."""
    ways, level = {shape: 1}, [shape]
    while level:
        below = {}
        for grown in level:
            for row in corners_of(grown):
                less = box_less(grown, row)
                below[less] = below.get(less, 0) + ways[grown]
        ways.update(below)
        level = list(below)
    return ways


def rows_on_the_way(shape, ways):
    """The rows, ascending, in which a shape can grow to one of those that have a way."""
    return [row for row in outers_of(shape) if box_more(shape, row) in ways]


def growth_descents(growth):
    """The descents of a growth, ascending: each i such that i + 1 stands in a lower row."""
    check_growth(growth, MOST_BOXES)
    return tuple([number for number in range(1, len(growth)) if growth[number] > growth[number - 1]])
