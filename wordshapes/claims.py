"""Claims of books: their forms, and whether they hold for the words under the names."""

from wordshapes.checks import is_between, is_shape
from wordshapes.limits import MOST_LONG
from wordshapes.lots import falling_total, rising_total
from wordshapes.moves import alike
from wordshapes.shapes import heavier
from wordshapes.strings import is_highest, one_web
from wordshapes.tables import Table

NAME_LETTERS = "abcdefghijklmnopqrstuvwxyz"
LONGEST_NAME = 8
OF_TWO = ("alike", "web", "heavier")
OF_TOTALS = ("rising", "falling")


def is_name(value):
    """Whether it is a name."""
    if not isinstance(value, str) or not 1 <= len(value) <= LONGEST_NAME:
        return False
    return all([letter in NAME_LETTERS for letter in value])


def is_book_claim(value):
    """Whether any value has one of the forms of claims of a book, whatever stands in the places of names."""
    if not isinstance(value, tuple) or len(value) < 2 or not isinstance(value[0], str):
        return False
    sort, more = value[0], value[2:]
    if sort in OF_TWO:
        return len(more) == 1
    if sort in OF_TOTALS:
        return len(more) == 2 and is_between(more[0], 1, MOST_LONG) and is_between(more[1], 0, MOST_LONG)
    if sort == "shape":
        return len(more) == 1 and is_shape(more[0], MOST_LONG)
    return sort == "highest" and not more


def names_of(claim):
    """What stands in the places of names in a claim of a book."""
    return claim[1:3] if claim[0] in OF_TWO else claim[1:2]


def first_broken(claims, words):
    """The index of the first claim that does not hold for the words under the names; None if all hold."""
    for index, claim in enumerate(claims):
        if not is_true(claim, [words[name] for name in names_of(claim)]):
            return index
    return None


def is_true(claim, words):
    """Whether a claim holds for the words in the places of its names."""
    if claim[0] == "shape":
        return Table.of(words[0]).shape == claim[2]
    if claim[0] == "rising":
        return rising_total(words[0], claim[2]) >= claim[3]
    if claim[0] == "falling":
        return falling_total(words[0], claim[2]) >= claim[3]
    if claim[0] == "highest":
        return is_highest(words[0])
    return is_true_of_two(claim[0], words[0], words[1])


def is_true_of_two(sort, word, other):
    """Whether a claim of this sort holds for two words."""
    if sort == "alike":
        return alike(word, other)
    if sort == "web":
        return one_web(word, other)
    return len(word) == len(other) and heavier(Table.of(word).shape, Table.of(other).shape)
