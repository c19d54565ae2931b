"""Marks: settled words, their rounds, charges, and how many tables have which charge."""

from wordshapes.boxes import columns_of, hook_of
from wordshapes.checks import check_amounts, check_shape, check_word
from wordshapes.errors import InvalidWord
from wordshapes.limits import MOST_BOXES, MOST_LETTER
from wordshapes.strings import mirrored
from wordshapes.strips import rows_of_stack, stacks
from wordshapes.tables import word_of_rows


def settled(word):
    """The settled word to which a word comes."""
    check_word(word)
    letter = first_scarce(word)
    while letter is not None:
        word = mirrored(word, letter)
        letter = first_scarce(word)
    return word


def first_scarce(word):
    """The least letter that stands in a word less often than the next one; None if there is none."""
    for letter in range(1, MOST_LETTER):
        if word.count(letter) < word.count(letter + 1):
            return letter
    return None


def check_settled(value):
    """Raises an error for what is no word, or not settled."""
    check_word(value)
    if first_scarce(value) is not None:
        raise InvalidWord(value)


def rounds(word):
    """The rounds of a settled word, as tuples of places."""
    check_settled(word)
    return tuple(rounds_of(word))


def rounds_of(word):
    """The rounds of what is known to be a settled word."""
    left, told = list(range(len(word))), []
    while left:
        places = round_of(word, left)
        told.append(places)
        left = [place for place in left if place not in places]
    return told


def round_of(word, left):
    """The places of the round that begins with the last 1 at the places that are left."""
    places, at, letter = (), len(word), 1
    fitting = [place for place in left if word[place] == letter]
    while fitting:
        to_the_left = [place for place in fitting if place < at]
        at = max(to_the_left if to_the_left else fitting)
        places, letter = places + (at,), letter + 1
        fitting = [place for place in left if word[place] == letter]
    return places


def marks(word):
    """The marks of the letters of a settled word."""
    check_settled(word)
    return marks_of(word)


def marks_of(word):
    """The marks of the letters of what is known to be a settled word."""
    told = {}
    for places in rounds_of(word):
        mark, last = 0, len(word)
        for place in places:
            # Going to the left leads to a place further right only past the right end.
            mark = mark + 1 if place > last else mark
            told[place] = mark
            last = place
    return tuple([told[place] for place in range(len(word))])


def charge(word):
    """The charge of a word."""
    return sum(marks_of(settled(word)))


def cocharge(word):
    """The weight of rows of the amounts of the settled word, less the charge."""
    end = settled(word)
    counts = [end.count(letter) for letter in range(1, MOST_LETTER + 1)]
    return weight_of(counts) - sum(marks_of(end))


def row_weight(shape):
    """The weight of rows of a shape."""
    check_shape(shape, MOST_BOXES)
    return weight_of(shape)


def weight_of(parts):
    """The sum of numbers, each times its index."""
    return sum([index * part for index, part in enumerate(parts)])


def mark_numbers(shape, amounts):
    """How many tables with a shape and amounts have the charge 0, 1 and so on up to the greatest one."""
    check_shape(shape)
    check_amounts(amounts)
    if sum(shape) != sum(amounts):
        return ()
    # The numbers do not hang on the order of the amounts, and put descending they make settled words.
    parts = sorted([amount for amount in amounts if amount], reverse=True)
    words = [word_of_rows(rows_of_stack(stack)) for stack in stacks((), shape, parts)]
    charges = [sum(marks_of(word)) for word in words]
    return tuple([charges.count(number) for number in range(max(charges, default=-1) + 1)])


def standard_marks(shape):
    """The mark numbers of a shape for as many amounts of 1 as it has boxes."""
    check_shape(shape, MOST_BOXES)
    numbers = [1]
    for power in range(1, sum(shape) + 1):
        numbers = times_one_less(numbers, power)
    for row, wide in enumerate(shape):
        for column in range(wide):
            numbers = over_one_less(numbers, hook_of(shape, row, column))
    return (0,) * weight_of(columns_of(shape)) + tuple(numbers)


def times_one_less(numbers, power):
    """The numbers before the powers of t in a sum of such, times 1 less this power of t."""
    padded, less = numbers + [0] * power, [0] * power + numbers
    return [number - other for number, other in zip(padded, less)]


def over_one_less(numbers, power):
    """The numbers before the powers of t in a sum of such, over 1 less this power of t, which divides it."""
    told = []
    for index in range(len(numbers) - power):
        told.append(numbers[index] + (told[index - power] if index >= power else 0))
    return told
