"""Words: their amounts, their standings and descents, inverses of orders, and texts."""

from wordshapes.checks import check_most, check_word, is_word
from wordshapes.errors import InvalidText, NotStandard
from wordshapes.limits import MOST_LETTER
from wordshapes.texts import numbers_told


def amounts(word):
    """How many letters 1, 2 and so on there are, up to the greatest letter."""
    check_word(word)
    return tuple([word.count(letter) for letter in range(1, max(word, default=0) + 1)])


def standing(word):
    """The order with the number of each letter, counted off by size, then from the left."""
    check_word(word)
    counted = [place for _, place in sorted([(letter, at) for at, letter in enumerate(word)])]
    return tuple([counted.index(place) + 1 for place in range(len(word))])


def is_standard(letters):
    """Whether letters are 1 to n, each once."""
    return sorted(letters) == list(range(1, len(letters) + 1))


def check_order(value):
    """Raises an error for what is no word, or no order."""
    check_word(value)
    if not is_standard(value):
        raise NotStandard()


def inverse(order):
    """The order that has the places of 1, 2 and so on in an order, counted from 1."""
    check_order(order)
    return tuple([order.index(number) + 1 for number in range(1, len(order) + 1)])


def descents(word):
    """The places of the letters that are greater than the next one, ascending."""
    check_word(word)
    return tuple([place for place in range(len(word) - 1) if word[place] > word[place + 1]])


def turned(word, most):
    """The word from the last letter to the first one, with most + 1 less each letter in the place of it."""
    check_word(word)
    check_most(most, word)
    return tuple([most + 1 - letter for letter in word[::-1]])


def word_text(word):
    """The text of a word."""
    check_word(word)
    return ".".join([str(letter) for letter in word]) if word else "-"


def word_in(text):
    """The word with a text."""
    word = word_told(text) if isinstance(text, str) else None
    if word is None:
        raise InvalidText(text)
    return word


def word_told(text):
    """The word that a text is; None if it is none."""
    numbers = numbers_told(text, MOST_LETTER)
    return numbers if is_word(numbers) else None
