"""Tables: letters put into them and taken out of them, and their products."""

from wordshapes.boxes import corners_of
from wordshapes.checks import check_letter, check_number, check_word, is_among, is_filled
from wordshapes.errors import InvalidRow, InvalidRows, NotATable, TooMany
from wordshapes.limits import MOST_LETTER, MOST_LONG
from wordshapes.texts import numbers_told
from wordshapes.words import amounts, is_standard, word_text


class Table:
    """Rows of letters that do not fall, over one another so that the columns rise."""

    def __init__(self, rows):
        if not is_filled((), rows):
            raise InvalidRows(rows)
        self.rows = rows
        self.shape = tuple([len(row) for row in rows])
        self.word = word_of_rows(rows)
        self.amounts = amounts(self.word)
        self.text = "/".join([word_text(row) for row in rows]) if rows else "-"
        self.standard = is_standard(self.word)

    @staticmethod
    def of(word):
        """The table of a word."""
        check_word(word)
        rows = ()
        for letter in word:
            rows, _ = rows_with(rows, letter)
        return Table(rows)

    def __eq__(self, other):
        return isinstance(other, Table) and self.rows == other.rows

    def __repr__(self):
        return f"Table({self.text!r})"

    def put(self, letter):
        """The table into which a letter has been put."""
        check_letter(letter)
        self.check_room(1)
        rows, _ = rows_with(self.rows, letter)
        return Table(rows)

    def put_by_columns(self, letter):
        """The table into which a letter has been put by columns."""
        check_letter(letter)
        self.check_room(1)
        columns, _ = lines_with(turned_rows(self.rows), letter, 1)
        return Table(turned_rows(columns))

    def check_room(self, more):
        """Raises an error if there is no room for so many boxes more."""
        if len(self.word) + more > MOST_LONG:
            raise TooMany(MOST_LONG)

    def taken(self, row):
        """The table without the last letter of a corner row, taken out, and the letter that is out."""
        if not is_among(row, corners_of(self.shape)):
            raise InvalidRow(row)
        rows, letter = rows_without(self.rows, row)
        return Table(rows), letter

    def times(self, other):
        """The product of the table and another one."""
        check_table(other)
        self.check_room(len(other.word))
        return Table.of(self.word + other.word)

    def part(self, most):
        """The table that the letters up to a number are where they stand."""
        check_number(most, 0, MOST_LETTER)
        kept = [tuple([letter for letter in row if letter <= most]) for row in self.rows]
        return Table(tuple([row for row in kept if row]))


def check_table(value):
    """Raises an error for what is no table."""
    if not isinstance(value, Table):
        raise NotATable(value)


def table_told(text):
    """The table that a text is; None if it is none."""
    if text == "-":
        return Table(())
    rows = tuple([numbers_told(part, MOST_LETTER) for part in text.split("/")])
    return Table(rows) if is_filled((), rows) else None


def word_of_rows(rows):
    """The letters of rows, the last row first."""
    return tuple([letter for row in rows[::-1] for letter in row])


def turned_rows(rows):
    """The columns of a table as rows, or its rows if its columns are given."""
    wide = len(rows[0]) if rows else 0
    return tuple([tuple([row[column] for row in rows if len(row) > column]) for column in range(wide)])


def rows_with(rows, letter):
    """The rows of a table into which a letter has been put, and the row of the new box."""
    return lines_with(rows, letter, 0)


def lines_with(lines, letter, gap):
    """The rows or the columns of a table into which a letter has been put, and the index of the one with the new box.

    The letters of a line that are at most the put one less the gap stay ahead of it: a row can
    keep letters like it (gap 0), a column gives the place of its like (gap 1).
    """
    changed = []
    for line in lines:
        at = len([ahead for ahead in line if ahead <= letter - gap])
        changed.append(line[:at] + (letter,) + line[at + 1:])
        if at == len(line):
            return tuple(changed) + lines[len(changed):], len(changed) - 1
        letter = line[at]
    return tuple(changed) + ((letter,),), len(lines)


def rows_without(rows, row):
    """The rows of a table from which the last letter of a corner row has been taken out, and the letter that is out."""
    letter = rows[row][-1]
    changed = [rows[row][:-1]] if len(rows[row]) > 1 else []
    for above in rows[:row][::-1]:
        at = len([ahead for ahead in above if ahead < letter]) - 1
        changed.append(above[:at] + (letter,) + above[at + 1:])
        letter = above[at]
    return tuple(changed[::-1]) + rows[row + 1:], letter
