"""Skews: rows of letters behind rows of holes."""

from wordshapes.boxes import holes_ahead
from wordshapes.checks import check_shape, is_filled
from wordshapes.errors import InvalidRows, NotASkew
from wordshapes.limits import MOST_HOLES
from wordshapes.tables import word_of_rows
from wordshapes.words import amounts


class Skew:
    """Holes of an inner shape, and rows of letters behind and below them."""

    def __init__(self, inner, rows):
        check_shape(inner, MOST_HOLES)
        if not is_filled(inner, rows):
            raise InvalidRows(rows)
        holes = holes_ahead(inner, len(rows))
        self.inner = inner
        self.outer = tuple([wide + len(row) for wide, row in zip(holes, rows)])
        self.rows = rows
        self.word = word_of_rows(rows)
        self.amounts = amounts(self.word)
        self.text = text_of_rows(holes, rows)

    def __eq__(self, other):
        return isinstance(other, Skew) and self.inner == other.inner and self.rows == other.rows


def check_skew(value):
    """Raises an error for what is no skew."""
    if not isinstance(value, Skew):
        raise NotASkew(value)


def text_of_rows(holes, rows):
    """The text of so many holes and then letters in each row."""
    parts = [["_"] * wide + [str(letter) for letter in row] for wide, row in zip(holes, rows)]
    return "/".join([".".join(part) for part in parts]) if rows else "-"
