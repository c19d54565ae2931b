"""Hidden words: completed in all ways, and what is sure of them."""

from wordshapes.checks import check_shape, check_word, is_letter, is_lettered
from wordshapes.errors import InvalidHidden, NotStandard, TooMany
from wordshapes.limits import MOST_LISTED, MOST_LONG, MOST_MOVED
from wordshapes.moves import class_of
from wordshapes.pairs import pair_of
from wordshapes.tables import Table, check_table
from wordshapes.words import descents


def is_hidden(value):
    """Whether any value is a hidden word."""
    return isinstance(value, tuple) and len(value) <= MOST_LONG and all([is_choice(element) for element in value])


def is_choice(value):
    """Whether it is a letter, or an ascending tuple of two or more letters."""
    if is_letter(value):
        return True
    if not is_lettered(value) or len(value) < 2:
        return False
    return all([ahead < behind for ahead, behind in zip(value, value[1:])])


def check_hidden(value):
    """Raises an error for what is no hidden word."""
    if not is_hidden(value):
        raise InvalidHidden(value)


def fillings_of(hidden):
    """All fillings of a hidden word, ascending."""
    check_hidden(hidden)
    return tuple(all_fillings(hidden))


def all_fillings(hidden):
    """All fillings of what is known to be a hidden word, ascending, if these are not too many."""
    choices = [(element,) if is_letter(element) else element for element in hidden]
    many = 1
    for letters in choices:
        many *= len(letters)
    if many > MOST_LISTED:
        raise TooMany(MOST_LISTED)
    begun = [()]
    for letters in choices:
        begun = [word + (letter,) for word in begun for letter in letters]
    return begun


def tables_of(hidden):
    """The tables of all fillings of any value, if it is a hidden word."""
    return [Table.of(word) for word in fillings_of(hidden)]


def seen_shapes(hidden):
    """The pairs of a shape of the tables of fillings and the number of fillings that have it, ascending."""
    counts = {}
    for table in tables_of(hidden):
        counts[table.shape] = counts.get(table.shape, 0) + 1
    return tuple(sorted(list(counts.items())))


def seen_tables(hidden):
    """The tables of all fillings, each once, ascending by their rows."""
    tables = {table.rows: table for table in tables_of(hidden)}
    return tuple([tables[rows] for rows in sorted(list(tables))])


def sure_boxes(hidden):
    """The triples of row, column and letter that the tables of all fillings have, ascending."""
    return shared([boxes_of(table) for table in tables_of(hidden)])


def boxes_of(table):
    """The triples of row, column and letter of a table, ascending."""
    return [(row, column, letter) for row, line in enumerate(table.rows) for column, letter in enumerate(line)]


def sure_descents(hidden):
    """The descents that all fillings have, ascending."""
    return shared([descents(word) for word in fillings_of(hidden)])


def shared(rows):
    """What all of some rows of things have, in the order of the first one."""
    return tuple([thing for thing in rows[0] if all([thing in row for row in rows])])


def letters_for(hidden, shape):
    """For each place the letters there in the fillings whose table has a shape; None if there are none."""
    check_hidden(hidden)
    check_shape(shape)
    fitting = [word for word in all_fillings(hidden) if Table.of(word).shape == shape]
    if not fitting:
        return None
    return tuple([tuple(sorted(set([word[place] for word in fitting]))) for place in range(len(hidden))])


def fillings_with(hidden, second):
    """The fillings that have a second table, ascending."""
    check_hidden(hidden)
    check_table(second)
    if not second.standard:
        raise NotStandard()
    return tuple([word for word in all_fillings(hidden) if pair_of(word)[1] == second])


def alike_fillings(hidden, word):
    """The fillings that are alike with a word, ascending."""
    check_hidden(hidden)
    table = Table.of(word)
    return tuple([filling for filling in all_fillings(hidden) if Table.of(filling) == table])


def nearest(word, table):
    """The least number of places at which a word with a table is unlike a word, and the first such word.

    None if they have not as many letters.
    """
    check_word(word)
    check_table(table)
    if len(word) > MOST_MOVED:
        raise TooMany(MOST_MOVED)
    if len(table.word) != len(word):
        return None
    return min([(unlike_places(word, other), other) for other in class_of(table.word)])


def unlike_places(word, other):
    """At how many places two words as long as one another are unlike."""
    return len([letter for letter, beside in zip(word, other) if letter != beside])
