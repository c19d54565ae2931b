"""Lots of places at which letters rise or fall: the greatest ones, and covers that show that none are greater."""

from wordshapes.boxes import columns_of
from wordshapes.checks import check_number, check_word
from wordshapes.limits import MOST_LONG
from wordshapes.moves import exchange_at, way_to_table, with_exchange
from wordshapes.tables import Table


def rising_total(word, many):
    """How many places so many rising lots have at most."""
    check_lots(word, many)
    return sum(Table.of(word).shape[:many])


def falling_total(word, many):
    """How many places so many falling lots have at most."""
    check_lots(word, many)
    return sum(columns_of(Table.of(word).shape)[:many])


def rising_lots(word, many):
    """So many rising lots with the greatest number of places."""
    check_lots(word, many)
    return best_rising(word, many)


def falling_lots(word, many):
    """So many falling lots with the greatest number of places."""
    check_lots(word, many)
    return best_falling(word, many)


def cover(word, many):
    """Falling lots with all places which show that so many rising lots cannot have more places."""
    check_lots(word, many)
    # As many falling lots as columns reach down to the last one of the rows: with the places
    # that they leave out they just count up to the boxes of these rows.
    shape = Table.of(word).shape
    return with_single_places(best_falling(word, element_at(shape, many - 1)), word)


def rising_cover(word, many):
    """Rising lots with all places which show that so many falling lots cannot have more places."""
    check_lots(word, many)
    columns = columns_of(Table.of(word).shape)
    return with_single_places(best_rising(word, element_at(columns, many - 1)), word)


def check_lots(word, many):
    """Raises an error if so many lots of a word cannot be told."""
    check_word(word)
    check_number(many, 1, MOST_LONG)


def element_at(shape, index):
    """The element of a shape with this index, 0 behind its end."""
    return shape[index] if index < len(shape) else 0


def with_single_places(lots, word):
    """The lots, and each place that is in none of them as a lot of its own."""
    used = [place for lot in lots for place in lot]
    return lots + tuple([(place,) for place in range(len(word)) if place not in used])


def best_rising(word, many):
    """So many rising lots with the greatest number of places; the number may be 0."""
    rows = rows_of_places(Table.of(word).shape)
    return carried_back(word, filled_up(rows, many))


def best_falling(word, many):
    """So many falling lots with the greatest number of places; the number may be 0."""
    shape = Table.of(word).shape
    rows = rows_of_places(shape)
    # Down a column the letters rise, and the word of a table has its last row first.
    columns = [
        tuple([row[column] for row in rows[::-1] if len(row) > column])
        for column in range(element_at(shape, 0))
    ]
    return carried_back(word, filled_up(columns, many))


def rows_of_places(shape):
    """For each row of a table with this shape the places at which its letters stand in the word of the table."""
    ends = [sum(shape[row:]) for row in range(len(shape))]
    return [tuple(range(end - wide, end)) for end, wide in zip(ends, shape)]


def filled_up(lots, many):
    """The first so many lots, with empty ones behind them if there are fewer."""
    return tuple(lots[:many]) + ((),) * (many - len(lots))


def carried_back(word, lots):
    """Lots of the word of a table made lots of a word with this table, with as many places in all."""
    now = Table.of(word).word
    # A move taken a second time leads back, so the way to the table's word is gone backwards.
    for place in way_to_table(word)[::-1]:
        first = exchange_at(now, place)
        lots = carried(lots, place, first)
        now = with_exchange(now, first)
    return lots


def carried(lots, place, first):
    """The lots behind a move at a place that exchanges the letters at `first` and behind it, as many places in all."""
    torn = [lot for lot in lots if first in lot and first + 1 in lot]
    if torn:
        return mended(lots, torn[0], place, first)
    behind = {first: first + 1, first + 1: first}
    return tuple([tuple([behind.get(at, at) for at in lot]) for lot in lots])


def mended(lots, torn, place, first):
    """The lots behind a move that turns round two letters of the torn one, neighbours there.

    The third letter of the move lies between both in size, and comes to stand beside one of them:
    these two make a couple, which can take the place of the torn one. If the third letter was in
    a lot itself, the couple takes one end of that lot, and the single letter gets the ends left over.
    """
    third_ahead = first == place + 1
    third = place if third_ahead else place + 2
    lenders = [lot for lot in lots if third in lot]
    others = [lot for lot in lots if lot != torn and lot not in lenders]
    couple = (place, place + 1) if third_ahead else (place + 1, place + 2)
    single = (place + 2,) if third_ahead else (place,)
    head, tail = both_ends(torn, place)
    if not lenders:
        return tuple(others + [head + couple + tail])
    lent_head, lent_tail = both_ends(lenders[0], place)
    if third_ahead:
        return tuple(others + [lent_head + couple + tail, head + single + lent_tail])
    return tuple(others + [head + couple + lent_tail, lent_head + single + tail])


def both_ends(lot, place):
    """The places of a lot ahead of the three from a place on, and those behind them."""
    return tuple([at for at in lot if at < place]), tuple([at for at in lot if at > place + 2])
