"""Moves: exchanges in three neighbouring letters, and the words that are alike through them."""

from wordshapes.boxes import standard_count
from wordshapes.checks import check_word, is_index
from wordshapes.errors import InvalidPlace, NoMove, TooMany
from wordshapes.limits import MOST_MOVED
from wordshapes.tables import Table


def moves(word):
    """The places with a move, ascending."""
    check_word(word)
    return tuple([place for place in range(len(word)) if exchange_at(word, place) is not None])


def exchange_at(word, place):
    """The place of the first one of the two letters that the move at a place exchanges; None if there is no move."""
    if place + 3 > len(word):
        return None
    left, middle, right = word[place:place + 3]
    if middle < left <= right or right < left <= middle:
        return place + 1
    if left <= right < middle or middle <= right < left:
        return place
    return None


def with_exchange(word, first):
    """The word with the letters at a place and the next one exchanged."""
    return word[:first] + (word[first + 1], word[first]) + word[first + 2:]


def moved(word, place):
    """The word after the move at a place."""
    check_word(word)
    if not is_index(place, word):
        raise InvalidPlace(place)
    first = exchange_at(word, place)
    if first is None:
        raise NoMove()
    return with_exchange(word, first)


def alike(word, other):
    """Whether moves lead from the one word to the other one."""
    check_word(word)
    check_word(other)
    return Table.of(word) == Table.of(other)


def chain(word, other):
    """The places of moves from the first word to the other one; None if they are not alike."""
    if not alike(word, other):
        return None
    way, back = way_to_table(word), way_to_table(other)
    # A move taken a second time leads back: where both ways end alike, one would come and go in vain.
    while way and back and way[-1] == back[-1]:
        way, back = way[:-1], back[:-1]
    return way + back[::-1]


def way_to_table(word):
    """The places of moves from a word to the word of its table.

    What stands ahead of a letter that is put is the word of a table already, whose first row ends
    right ahead of it. If this row gives a letter away, one move after the other, from the
    end of the row to its beginning, brings the changed row into its place, and the letter
    given away ahead of it: right behind the next row, into which it is put likewise.
    """
    way, lengths = [], []
    for put in range(len(word)):
        at, row = put, 0
        while row < len(lengths) and word[at] < word[at - 1]:
            start = at - lengths[row]
            for place in range(at - 2, start - 1, -1):
                word = with_exchange(word, exchange_at(word, place))
                way.append(place)
            at, row = start, row + 1
        if row == len(lengths):
            lengths.append(0)
        lengths[row] += 1
    return tuple(way)


def class_of(word):
    """All words that are alike with a word, ascending."""
    check_word(word)
    if len(word) > MOST_MOVED:
        raise TooMany(MOST_MOVED)
    found, waiting = {word: True}, [word]
    while waiting:
        ahead = waiting.pop()
        for place in moves(ahead):
            behind = moved(ahead, place)
            if behind not in found:
                found[behind] = True
                waiting.append(behind)
    return tuple(sorted(list(found)))


def class_count(word):
    """How many words are alike with a word."""
    check_word(word)
    # A word is told by its table and any standard table of the shape of it.
    return standard_count(Table.of(word).shape)
