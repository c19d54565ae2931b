"""The checker: whether a paper shows that a claim is true.

Each check looks at the values of the claim first: nothing of it is taken for granted.
"""

from wordshapes.ballots import is_ballot
from wordshapes.boxes import box_less, box_more, corners_of, outers_of
from wordshapes.checks import is_between, is_filled, is_index, is_integer, is_letter, is_shape, is_word
from wordshapes.limits import MOST_HOLES, MOST_LONG
from wordshapes.moves import exchange_at, with_exchange
from wordshapes.skews import Skew
from wordshapes.slides import rectified_by, takes_all_holes
from wordshapes.squares import is_square, order_of
from wordshapes.strings import free_places, is_highest, with_letter
from wordshapes.words import standing


def shows_alike(claim, paper):
    """Whether moves at the places of the paper lead from the first word to the other one."""
    _, word, other = claim
    if not is_word(word) or not is_word(other) or not isinstance(paper, tuple):
        return False
    for place in paper:
        first = exchange_at(word, place) if is_index(place, word) else None
        if first is None:
            return False
        word = with_exchange(word, first)
    return word == other


def shows_web(claim, paper):
    """Whether raising at the letters of the paper leads both words to one highest word."""
    _, word, other = claim
    if not is_word(word) or not is_word(other) or not is_pair(paper):
        return False
    top, other_top = word_raised(word, paper[0]), word_raised(other, paper[1])
    return top is not None and top == other_top and is_highest(top)


def is_pair(value):
    """Whether it is a pair of tuples."""
    return isinstance(value, tuple) and len(value) == 2 and all([isinstance(part, tuple) for part in value])


def word_raised(word, letters):
    """The word raised at letters, one after the other; None if it cannot be."""
    for letter in letters:
        upper = free_places(word, letter)[1] if is_letter(letter) else []
        if not upper:
            return None
        word = with_letter(word, upper[0], letter)
    return word


def shows_rising(claim, paper):
    """Whether the rising lots of the paper have as many places as its cover by falling lots lets them have."""
    return shows_total(claim, paper, rises, falls)


def shows_falling(claim, paper):
    """Whether the falling lots of the paper have as many places as its cover by rising lots lets them have."""
    return shows_total(claim, paper, falls, rises)


def rises(ahead, behind):
    """Whether a letter may stand behind another one in a rising lot."""
    return ahead <= behind


def falls(ahead, behind):
    """Whether a letter may stand behind another one in a falling lot."""
    return ahead > behind


def shows_total(claim, paper, fits, against):
    """Whether the lots of the paper have as many places as its cover by lots of the other kind lets them have."""
    _, word, many, total = claim
    if not is_word(word) or not is_between(many, 1, MOST_LONG) or not is_integer(total) or not is_pair(paper):
        return False
    lots, cover = paper
    if not are_lots(lots, word, fits) or not are_lots(cover, word, against) or len(lots) != many or () in cover:
        return False
    covered = sum([len(lot) for lot in cover])
    counted = sum([min(len(lot), many) for lot in cover])
    return covered == len(word) and counted == total and sum([len(lot) for lot in lots]) == total


def are_lots(lots, word, fits):
    """Whether a tuple has lots of a word whose letters fit one behind the other, no two with a common place."""
    if not all([isinstance(lot, tuple) and all([is_index(place, word) for place in lot]) for lot in lots]):
        return False
    places = [place for lot in lots for place in lot]
    if len(set(places)) < len(places):
        return False
    steps = [step for lot in lots for step in zip(lot, lot[1:])]
    return all([ahead < behind and fits(word[ahead], word[behind]) for ahead, behind in steps])


def shows_heavier(claim, paper):
    """Whether the shapes of the paper lead from the first shape to the other one, box by box downwards."""
    _, shape, lower = claim
    if not are_shapes([shape, lower]) or not isinstance(paper, tuple) or not paper or not are_shapes(paper):
        return False
    if paper[0] != shape or paper[-1] != lower:
        return False
    return all([is_step_down(ahead, behind) for ahead, behind in zip(paper, paper[1:])])


def are_shapes(values):
    """Whether all of some values are shapes."""
    return all([is_shape(value, MOST_LONG) for value in values])


def is_step_down(shape, other):
    """Whether a shape becomes another one by a box that is moved to a lower row."""
    less = [(box_less(shape, row), row) for row in corners_of(shape)]
    return other in [box_more(left, lower) for left, row in less for lower in outers_of(left) if lower > row]


def shows_lighter(claim, paper):
    """Whether as many first elements of the first shape as the paper tells have a lesser sum."""
    _, shape, lower = claim
    if not are_shapes([shape, lower]) or sum(shape) != sum(lower) or not is_integer(paper) or paper < 1:
        return False
    return sum(shape[:paper]) < sum(lower[:paper])


def shows_joins(claim, paper):
    """Whether the paper has so many unlike ballot fillings."""
    _, first, second, third, many = claim
    if not are_shapes([first, second, third]) or not is_integer(many) or not isinstance(paper, tuple):
        return False
    if len(paper) != many or not all([is_joining(first, second, third, rows) for rows in paper]):
        return False
    return all([ahead < behind for ahead, behind in zip(paper, paper[1:])])


def is_joining(first, second, third, rows):
    """Whether rows of letters make a ballot filling of the third shape, less the first one, with these amounts."""
    if not is_filled(first, rows):
        return False
    skew = Skew(first, rows)
    return skew.outer == third and skew.amounts == second and is_ballot(skew.word)


def shows_slides(claim, paper):
    """Whether slides in at the rows of the paper lead from the skew to the table."""
    _, inner, rows, table = claim
    if not is_shape(inner, MOST_HOLES) or not is_filled(inner, rows) or not is_filled((), table):
        return False
    return takes_all_holes(inner, paper) and rectified_by(Skew(inner, rows), paper).rows == table


def shows_grows(claim, paper):
    """Whether the paper is the square of the word, and ends in the shape."""
    _, word, shape = claim
    if not is_word(word) or not is_shape(shape, MOST_LONG) or not is_square(paper):
        return False
    return order_of(paper) == standing(word) and paper[-1][-1] == shape


CHECKS = {
    "alike": shows_alike, "web": shows_web, "rising": shows_rising, "falling": shows_falling, "heavier": shows_heavier,
    "lighter": shows_lighter, "joins": shows_joins, "slides": shows_slides, "grows": shows_grows,
}
PARTS_OF_CLAIMS = {
    "alike": 3, "web": 3, "rising": 4, "falling": 4, "heavier": 3, "lighter": 3, "joins": 5, "slides": 4, "grows": 3,
}


def accepts(claim, paper):
    """Whether any value is a claim for the checker, and any other one a paper for it."""
    if not isinstance(claim, tuple) or not claim or not isinstance(claim[0], str) or claim[0] not in CHECKS:
        return False
    shows = CHECKS[claim[0]]
    return len(claim) == PARTS_OF_CLAIMS[claim[0]] and shows(claim, paper)
