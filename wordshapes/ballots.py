"""Ballot words, and the ballot fillings of a shape less another one."""

from wordshapes.boxes import is_inside
from wordshapes.checks import check_amounts, check_listed, check_shape, check_word
from wordshapes.errors import NotInside
from wordshapes.limits import MOST_LETTER
from wordshapes.skews import Skew
from wordshapes.strips import ballot_stacks, rows_of_stack


def is_ballot(word):
    """Whether each end of a word has at least as many k as k + 1 for each letter k."""
    check_word(word)
    ends = [word[place:] for place in range(len(word))]
    return all([end.count(letter) >= end.count(letter + 1) for end in ends for letter in range(1, MOST_LETTER)])


def ballot_fillings(outer, inner, amounts):
    """All ballot fillings of the outer shape, less the inner one, with amounts, ascending by their rows."""
    told = fillings_between(outer, inner, amounts)
    check_listed(len(told))
    return tuple(told)


def ballot_count(outer, inner, amounts):
    """How many ballot fillings of the outer shape, less the inner one, with amounts there are."""
    return len(fillings_between(outer, inner, amounts))


def fillings_between(outer, inner, amounts):
    """The ballot fillings between any values, if these are two shapes, the one in the other, and amounts."""
    check_shape(outer)
    check_shape(inner)
    check_amounts(amounts)
    if not is_inside(inner, outer):
        raise NotInside()
    return ballot_skews(outer, inner, amounts)


def ballot_skews(outer, inner, amounts):
    """The ballot fillings, ascending by their rows; none if the shapes or the amounts do not fit one another."""
    if not is_inside(inner, outer) or sum(inner) + sum(amounts) != sum(outer):
        return []
    # Inside the outer shape, and of the size of it, each stack ends in the outer shape itself.
    rows = [rows_of_stack(stack) for stack in ballot_stacks(inner, outer, amounts)]
    return [Skew(inner, letters) for letters in sorted(rows)]
