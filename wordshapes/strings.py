"""Strings: words raised, lowered and mirrored at letters, and the webs of words that come of it."""

from wordshapes.checks import check_listed, check_low_letter, check_most, check_word
from wordshapes.errors import NoMove
from wordshapes.limits import MOST_LETTER


def ends(word, letter):
    """How often a word can be raised and how often it can be lowered at a letter."""
    lower, upper = free_places_of(word, letter)
    return len(upper), len(lower)


def raised(word, letter):
    """The word raised at a letter."""
    _, upper = free_places_of(word, letter)
    if not upper:
        raise NoMove()
    return with_letter(word, upper[0], letter)


def lowered(word, letter):
    """The word lowered at a letter."""
    lower, _ = free_places_of(word, letter)
    if not lower:
        raise NoMove()
    return with_letter(word, lower[-1], letter + 1)


def mirrored(word, letter):
    """The word mirrored at a letter."""
    lower, upper = free_places_of(word, letter)
    for index, place in enumerate(lower + upper):
        word = with_letter(word, place, letter if index < len(upper) else letter + 1)
    return word


def free_places_of(word, letter):
    """The free places of any values, if these are a word and a letter at which it can be raised or lowered."""
    check_word(word)
    check_low_letter(letter)
    return free_places(word, letter)


def free_places(word, letter):
    """The places of the free letters and those of the free next ones, which all stand behind them."""
    lower, upper = [], []
    for place, one in enumerate(word):
        if one == letter + 1:
            upper.append(place)
        elif one == letter and upper:
            upper.pop()
        elif one == letter:
            lower.append(place)
    return lower, upper


def with_letter(word, place, letter):
    """The word with a letter at a place."""
    return word[:place] + (letter,) + word[place + 1:]


def is_highest(word):
    """Whether a word can be raised at no letter."""
    check_word(word)
    return first_raise(word) is None


def highest(word):
    """The highest word to which raising leads."""
    check_word(word)
    return climb(word)[0]


def way_up(word):
    """The letters at which a word is raised to the highest one, the least that can be each time."""
    check_word(word)
    return climb(word)[1]


def climb(word):
    """The highest word to which raising at the least letters leads, and these letters."""
    way = ()
    letter = first_raise(word)
    while letter is not None:
        word = raised(word, letter)
        way = way + (letter,)
        letter = first_raise(word)
    return word, way


def first_raise(word):
    """The least letter at which a word can be raised; None if there is none."""
    for letter in range(1, MOST_LETTER):
        _, upper = free_places(word, letter)
        if upper:
            return letter
    return None


def lowest(word, most):
    """The word of the web with letters up to a number that can be lowered at no letter below it."""
    check_web(word, most)
    below = one_lower(word, most)
    while below:
        word = below[0]
        below = one_lower(word, most)
    return word


def web_of(word, most):
    """All words of the web with letters up to a number, ascending."""
    check_web(word, most)
    # All of the web comes of its highest word by lowering alone.
    top = highest(word)
    found, waiting = {top: True}, [top]
    while waiting:
        for below in one_lower(waiting.pop(), most):
            if below not in found:
                found[below] = True
                waiting.append(below)
        check_listed(len(found))
    return tuple(sorted(list(found)))


def check_web(word, most):
    """Raises an error for what is no word, or no number for its letters."""
    check_word(word)
    check_most(most, word)


def one_lower(word, most):
    """The words that come of a word by lowering it once, at the letters below a number."""
    return [lowered(word, letter) for letter in range(1, most) if free_places(word, letter)[0]]


def one_web(word, other):
    """Whether raising and lowering lead from the one word to the other one."""
    return highest(word) == highest(other)
