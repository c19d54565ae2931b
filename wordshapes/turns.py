"""Tables toggled at a letter, promoted, demoted and evacuated."""

from wordshapes.checks import check_low_letter, check_most, check_number
from wordshapes.errors import TooMany
from wordshapes.limits import MOST_LISTED
from wordshapes.tables import Table, check_table


def toggled(table, letter):
    """The table toggled at a letter."""
    check_table(table)
    check_low_letter(letter)
    return Table(toggled_at(table.rows, [letter]))


def promoted(table, most):
    """The table with letters up to a number promoted."""
    check_turn(table, most)
    return Table(promoted_rows(table.rows, most))


def demoted(table, most):
    """The table with letters up to a number demoted."""
    check_turn(table, most)
    return Table(toggled_at(table.rows, list(range(most - 1, 0, -1))))


def evacuated(table, most):
    """The table with letters up to a number evacuated."""
    check_turn(table, most)
    letters = [letter for end in range(most, 1, -1) for letter in range(1, end)]
    return Table(toggled_at(table.rows, letters))


def promoted_often(table, most, times):
    """The table promoted so many times."""
    check_turn(table, most)
    check_number(times, 0, MOST_LISTED)
    line = promotions(table.rows, most, times + 1)
    # A line that ends ahead of its time has come back to its beginning, and goes round.
    return Table(line[times % len(line)])


def period(table, most):
    """The least number of promotions behind which it is the same table."""
    check_turn(table, most)
    line = promotions(table.rows, most, MOST_LISTED + 1)
    if len(line) > MOST_LISTED:
        raise TooMany(MOST_LISTED)
    return len(line)


def check_turn(table, most):
    """Raises an error for what is no table, or no number for its letters."""
    check_table(table)
    check_most(most, table.word)


def promotions(rows, most, longest):
    """The rows of a table and of those that come by promoting it, until they come back, but so many at most."""
    line = [rows]
    following = promoted_rows(rows, most)
    while following != rows and len(line) < longest:
        line.append(following)
        following = promoted_rows(following, most)
    return line


def promoted_rows(rows, most):
    """The rows of a table with letters up to a number, promoted."""
    return toggled_at(rows, list(range(1, most)))


def toggled_at(rows, letters):
    """The rows of a table toggled at these letters, one after the other."""
    for letter in letters:
        above, below = ((),) + rows[:-1], rows[1:] + ((),)
        rows = tuple([
            row_toggled(upper, row, lower, letter)
            for upper, row, lower in zip(above, rows, below)
        ])
    return rows


def row_toggled(above, row, below, letter):
    """A row between two others, toggled at a letter.

    Letters that stand over the next one or under the one before are first and last among their
    likes in the row, so the loose ones stand together.
    """
    bound = couples(row, below, letter)
    start = len([ahead for ahead in row if ahead < letter]) + bound
    lesser = row.count(letter) - bound
    greater = row.count(letter + 1) - couples(above, row, letter)
    return row[:start] + (letter,) * greater + (letter + 1,) * lesser + row[start + lesser + greater:]


def couples(upper, lower, letter):
    """How often the letter stands in the upper row right over the next one in the lower row."""
    return list(zip(upper, lower)).count((letter, letter + 1))
