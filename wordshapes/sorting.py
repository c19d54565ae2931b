"""Sorting: orders exchanged letter by letter, their reduced rows, and the sorted tables of these."""

from wordshapes.boxes import columns_of
from wordshapes.checks import check_listed, check_number, check_word, is_between, is_index
from wordshapes.errors import InvalidLetter, InvalidPlace, NoMove, NotReduced, NotStandard, TooMany
from wordshapes.limits import MOST_DEGREE, MOST_LONG
from wordshapes.mixtures import Mixture
from wordshapes.moves import with_exchange
from wordshapes.pairs import boxes_by_age, check_pair, grown
from wordshapes.terms import summed
from wordshapes.words import check_order


def inversion_count(order):
    """How many pairs of places there are of which the earlier one has the greater letter."""
    check_order(order)
    return inversions_of(order)


def inversions_of(order):
    """The number of inversions of what is known to be an order."""
    return len([place for place in range(len(order)) for ahead in order[:place] if ahead > order[place]])


def exchanged_at(order, letter):
    """The order exchanged at a letter."""
    check_word(order)
    if not is_between(letter, 1, len(order) - 1):
        raise InvalidLetter(letter)
    check_order(order)
    return with_exchange(order, letter - 1)


def order_by(row, size):
    """The order that 1, 2 and so on to a size becomes, exchanged at the letters of a word."""
    check_word(row)
    check_number(size, max(row, default=0) + 1, MOST_LONG)
    order = first_order(size)
    for letter in row:
        order = with_exchange(order, letter - 1)
    return order


def first_order(size):
    """The order 1, 2 and so on to a size."""
    return tuple(range(1, size + 1))


def is_reduced(row):
    """Whether it is a reduced row of some order."""
    check_word(row)
    # Each exchange has to bring an inversion, and the longest order has no letters behind the last one.
    order = first_order(MOST_LONG)
    for letter in row:
        if letter == MOST_LONG or order[letter - 1] > order[letter]:
            return False
        order = with_exchange(order, letter - 1)
    return True


def reduced_rows(order):
    """All reduced rows of an order, ascending."""
    check_listed(reduced_count(order))
    return tuple(sorted(list(led_down(order, (), row_behind))))


def row_behind(row, letter):
    """The row with a letter ahead of it."""
    return (letter,) + row


def reduced_count(order):
    """How many reduced rows an order has."""
    check_inversions(order, MOST_LONG)
    return led_down(order, (), left_alone)[()]


def left_alone(thing, letter):
    """The thing, whatever the letter is."""
    return thing


def check_inversions(order, most):
    """Raises an error for what is no order, or has more inversions."""
    check_order(order)
    if inversions_of(order) > most:
        raise TooMany(most)


def led_down(order, thing, step):
    """All to which steps at the letters of the reduced rows of an order, from the last letter on, lead a thing.

    Each tells how many reduced rows lead to it. What the rows have led to is gathered by the orders that
    are left: in each level they have an inversion less, until it is 1, 2 and so on alone.
    """
    level = {order: {thing: 1}}
    for _ in range(inversions_of(order)):
        below = {}
        for left, things in level.items():
            for letter in letters_down(left):
                less = below.setdefault(with_exchange(left, letter - 1), {})
                for told, often in things.items():
                    led = step(told, letter)
                    less[led] = less.get(led, 0) + often
        level = below
    return level[first_order(len(order))]


def letters_down(order):
    """The letters at which an order is exchanged to one with fewer inversions."""
    return [letter for letter in range(1, len(order)) if order[letter - 1] > order[letter]]


def braids(row):
    """The places with a braid, ascending."""
    check_word(row)
    return tuple([place for place in range(len(row)) if braid_at(row, place) is not None])


def braided(row, place):
    """The word behind the braid at a place."""
    check_word(row)
    if not is_index(place, row):
        raise InvalidPlace(place)
    behind = braid_at(row, place)
    if behind is None:
        raise NoMove()
    return behind


def braid_at(row, place):
    """The word behind the braid at a place; None if there is none."""
    here = row[place:place + 3]
    if len(here) > 1 and abs(here[0] - here[1]) > 1:
        return with_exchange(row, place)
    if len(here) == 3 and here[0] == here[2] and abs(here[0] - here[1]) == 1:
        return row[:place] + (here[1], here[0], here[1]) + row[place + 3:]
    return None


def sorted_pair(row):
    """The pair of the sorted tables of a reduced row."""
    if not is_reduced(row):
        raise NotReduced()
    return grown(list(enumerate(row, start=1)), sorted_with)


def sorted_with(rows, letter):
    """The rows of a table into which a letter has been put sorted, and the row of the new box."""
    changed = []
    for line in rows:
        at = len([ahead for ahead in line if ahead <= letter])
        if letter in line and at < len(line):
            changed.append(line)
            letter = letter + 1
        else:
            changed.append(line[:at] + (letter,) + line[at + 1:])
            if at == len(line):
                return tuple(changed) + rows[len(changed):], len(changed) - 1
            letter = line[at]
    return tuple(changed) + ((letter,),), len(rows)


def sorted_row(first, second):
    """The reduced row with these sorted tables."""
    check_pair(first, second)
    if not second.standard:
        raise NotStandard()
    rows, row = first.rows, ()
    for _, end in boxes_by_age(second):
        rows, letter = sorted_without(rows, end)
        row = (letter,) + row
    # Of tables that do not come from a reduced row something comes out, too: no such row, or one of others.
    if sorted_pair(row) != (first, second):
        raise NotReduced()
    return row


def sorted_without(rows, end):
    """The rows of a table into which a letter was put sorted with the new box at the end of a row, and this letter."""
    letter = rows[end][-1]
    changed = [rows[end][:-1]]
    for above in rows[:end][::-1]:
        if letter in above:
            # It has not left this row: the letter less by one was put, and the row stayed as it was.
            changed.append(above)
            letter = letter - 1
        else:
            at = len([ahead for ahead in above if ahead < letter]) - 1
            changed.append(above[:at] + (letter,) + above[at + 1:])
            letter = above[at]
    return tuple(changed[::-1]) + rows[end + 1:], letter


def order_mixture(order):
    """The sum of the shapes of the first sorted tables of all reduced rows of an order, each table once."""
    check_inversions(order, MOST_DEGREE)
    # The rows are led from behind, so their first tables come with the columns as rows.
    firsts = led_down(order, (), put_sorted)
    shapes = [tuple([len(line) for line in rows]) for rows in firsts]
    return Mixture(summed([(columns_of(shape), (1, 1)) for shape in shapes]))


def put_sorted(rows, letter):
    """The rows of a table into which a letter has been put sorted."""
    return sorted_with(rows, letter)[0]
