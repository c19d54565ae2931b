"""Slides of skews: inward, until there is a table, and outward."""

from wordshapes.boxes import box_less, box_more, corners_of, holes_ahead, outers_of
from wordshapes.checks import check_word, is_among
from wordshapes.errors import InvalidHoles, InvalidRow, TooMany
from wordshapes.limits import MOST_HOLES, MOST_LONG
from wordshapes.skews import Skew, check_skew
from wordshapes.tables import Table, check_table


def slid_in(skew, row):
    """The skew behind a slide in at a corner row of its inner shape."""
    check_skew(skew)
    if not is_among(row, corners_of(skew.inner)):
        raise InvalidRow(row)
    return hole_less(skew, row)


def slid_out(skew, row):
    """The skew behind a slide out at an outer row of its outer shape."""
    check_skew(skew)
    if not is_among(row, outers_of(skew.outer)):
        raise InvalidRow(row)
    if sum(skew.inner) == MOST_HOLES:
        raise TooMany(MOST_HOLES)
    letters = letters_by_box(skew)
    behind = skew.outer[row] if row < len(skew.outer) else 0
    hole_row, _ = slide(letters, (row, behind), -1)
    return skew_of(box_more(skew.inner, hole_row), letters)


def hole_less(skew, row):
    """The skew behind a slide in at a row that is known to be a corner row of its inner shape."""
    letters = letters_by_box(skew)
    slide(letters, (row, skew.inner[row] - 1), 1)
    return skew_of(box_less(skew.inner, row), letters)


def letters_by_box(skew):
    """The letters of a skew under their boxes, pairs of a row and a column."""
    holes = holes_ahead(skew.inner, len(skew.rows))
    return {
        (row, column): letter
        for row, letters in enumerate(skew.rows)
        for column, letter in enumerate(letters, start=holes[row])
    }


def skew_of(inner, letters):
    """The skew with this inner shape and with letters under their boxes."""
    many = max([len(inner)] + [row + 1 for row, _ in letters])
    boxes = sorted(list(letters))
    return Skew(inner, tuple([tuple([letters[box] for box in boxes if box[0] == row]) for row in range(many)]))


def slide(letters, box, step):
    """Moves letters into an empty box as long as one stands beside it, and tells the box that is empty at last.

    With step 1 they come from below and from the right, with step -1 from above and from the left.
    """
    beside_it = sources(letters, box, step)
    while beside_it:
        # Of letters alike the first one is taken: the one below or above.
        source = min(beside_it, key=lambda near: step * letters[near])
        letters[box] = letters.pop(source)
        box = source
        beside_it = sources(letters, box, step)
    return box


def sources(letters, box, step):
    """The boxes with letters from which one can come into an empty box, the one of its column first."""
    row, column = box
    return [near for near in ((row + step, column), (row, column + step)) if near in letters]


def rectified(skew):
    """The table in which the slides in of a skew end."""
    check_skew(skew)
    while skew.inner:
        skew = hole_less(skew, len(skew.inner) - 1)
    return Table(skew.rows)


def rectified_by(skew, rows):
    """The table in which slides in at these rows, one after the other, end."""
    check_skew(skew)
    if not takes_all_holes(skew.inner, rows):
        raise InvalidHoles(rows)
    for row in rows:
        skew = hole_less(skew, row)
    return Table(skew.rows)


def takes_all_holes(inner, rows):
    """Whether any value is a tuple of rows at which an inner shape can be taken away, box by box."""
    if not isinstance(rows, tuple) or len(rows) != sum(inner):
        return False
    for row in rows:
        if not is_among(row, corners_of(inner)):
            return False
        inner = box_less(inner, row)
    return True


def staircase(word):
    """The skew in which each letter of a word stands alone in its row and its column, the first one lowest."""
    check_word(word)
    return Skew(tuple(range(len(word) - 1, 0, -1)), tuple([(letter,) for letter in word[::-1]]))


def beside(first, second):
    """The skew with the rows of the second table at the right above those of the first one."""
    check_table(first)
    check_table(second)
    if len(first.word) + len(second.word) > MOST_LONG:
        raise TooMany(MOST_LONG)
    # Each row of the second table has the holes of the first row below it; none if there is no such row.
    return Skew(first.shape[:1] * len(second.rows), second.rows + first.rows)
