"""Certificates: claims for the checker with the papers that show that they are true."""

from wordshapes.ballots import ballot_skews
from wordshapes.boxes import box_less
from wordshapes.checks import check_listed, check_shape
from wordshapes.lots import cover, falling_lots, falling_total, rising_cover, rising_lots, rising_total
from wordshapes.moves import chain
from wordshapes.shapes import first_lighter, steps_down
from wordshapes.skews import check_skew
from wordshapes.slides import rectified_by
from wordshapes.squares import square_of
from wordshapes.strings import one_web, way_up


def certify_alike(word, other):
    """That two words are alike; None if they are not."""
    places = chain(word, other)
    return None if places is None else (("alike", word, other), places)


def certify_web(word, other):
    """That raising and lowering lead from one word to the other; None if it is not so."""
    if not one_web(word, other):
        return None
    return ("web", word, other), (way_up(word), way_up(other))


def certify_rising(word, many):
    """What the rising total for so many lots is."""
    return ("rising", word, many, rising_total(word, many)), (rising_lots(word, many), cover(word, many))


def certify_falling(word, many):
    """What the falling total for so many lots is."""
    return ("falling", word, many, falling_total(word, many)), (falling_lots(word, many), rising_cover(word, many))


def certify_heavier(shape, other):
    """That the first shape is at least as heavy as the other one, or that it is not."""
    check_shape(shape)
    check_shape(other)
    lighter = first_lighter(shape, other)
    if lighter is None:
        return ("heavier", shape, other), steps_down(shape, other)
    return ("lighter", shape, other), lighter


def certify_joins(first, second, third):
    """What the join count of three shapes is."""
    check_shape(first)
    check_shape(second)
    check_shape(third)
    skews = ballot_skews(third, first, second)
    check_listed(len(skews))
    return ("joins", first, second, third, len(skews)), tuple([skew.rows for skew in skews])


def certify_slides(skew):
    """To which table a skew is rectified."""
    check_skew(skew)
    rows = rows_of_holes(skew.inner)
    return ("slides", skew.inner, skew.rows, rectified_by(skew, rows).rows), rows


def rows_of_holes(inner):
    """The rows at which an inner shape is taken away, box by box from the last one on."""
    rows = ()
    while inner:
        rows = rows + (len(inner) - 1,)
        inner = box_less(inner, rows[-1])
    return rows


def certify_grows(word):
    """Which shape the table of a word has."""
    square = square_of(word)
    return ("grows", word, square[-1][-1]), square
