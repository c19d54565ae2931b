"""Join counts: how often shapes come in products and in shapes with holes, and products with a told table."""

from wordshapes.ballots import ballot_skews
from wordshapes.boxes import is_inside
from wordshapes.checks import check_shape
from wordshapes.errors import NotInside, TooMany
from wordshapes.limits import MOST_LONG
from wordshapes.pairs import boxes_by_age
from wordshapes.shapes import shapes_of
from wordshapes.tables import Table, check_table, rows_without


def join_count(first, second, third):
    """How many ballot fillings the third shape, less the first one, has with the second one as amounts."""
    check_shape(first)
    check_shape(second)
    check_shape(third)
    return len(ballot_skews(third, first, second))


def joined(first, second):
    """The pairs of a third shape and a join count that is not 0, ascending."""
    check_shape(first)
    check_shape(second)
    if sum(first) + sum(second) > MOST_LONG:
        raise TooMany(MOST_LONG)
    thirds = shapes_of(sum(first) + sum(second))
    return counted([(third, len(ballot_skews(third, first, second))) for third in thirds])


def skew_terms(outer, inner):
    """The pairs of a second shape and its join count with the inner and the outer one that is not 0, ascending."""
    check_shape(outer)
    check_shape(inner)
    if not is_inside(inner, outer):
        raise NotInside()
    seconds = shapes_of(sum(outer) - sum(inner))
    return counted([(second, len(ballot_skews(outer, inner, second))) for second in seconds])


def counted(pairs):
    """Those of the pairs of a shape and a number of which the number is not 0, ascending."""
    return tuple(sorted([(shape, number) for shape, number in pairs if number]))


def pairs_for(table, first, second):
    """All pairs of tables with these shapes whose product is a table, ascending by their rows."""
    check_table(table)
    check_shape(first)
    check_shape(second)
    pairs = [factors_of(table, skew) for skew in ballot_skews(table.shape, first, second)]
    return tuple(sorted(pairs, key=lambda pair: (pair[0].rows, pair[1].rows)))


def factors_of(table, skew):
    """The pair of tables whose product is a table that belongs to a ballot filling inside its shape.

    The filling tells which boxes become new, and when, if a word of the second factor is put into the
    first one. So its letters come out of the table, the newest first, and the first factor is left; the
    second one has the amounts as its shape just because the filling is a ballot filling.
    """
    rows, letters = table.rows, ()
    for _, row in boxes_by_age(skew):
        rows, letter = rows_without(rows, row)
        letters = (letter,) + letters
    return Table(rows), Table.of(letters)
