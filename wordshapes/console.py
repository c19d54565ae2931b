"""The console: lines that change a book, claim something in it, or ask."""

from wordshapes.boxes import standard_count
from wordshapes.books import Book
from wordshapes.checks import is_between
from wordshapes.claims import OF_TOTALS, OF_TWO, is_name
from wordshapes.errors import InvalidLine
from wordshapes.joins import join_count
from wordshapes.limits import MOST_BOXES, MOST_LONG
from wordshapes.pairs import pair_of
from wordshapes.ribbons import character
from wordshapes.strings import highest
from wordshapes.tables import Table
from wordshapes.texts import number_told, shape_told
from wordshapes.words import word_text, word_told

QUESTIONS = ("table", "second", "word", "top")


class Console:
    """A book to which one speaks by lines."""

    def __init__(self):
        self.book = Book()

    def say(self, line):
        """Executes a line, and tells a string."""
        told = line_told(line)
        if told is None:
            raise InvalidLine(line)
        sort, parts = told
        if sort == "count":
            return str(standard_count(parts[0]))
        if sort == "join":
            return str(join_count(parts[0], parts[1], parts[2]))
        if sort == "character":
            return str(character(parts[0], parts[1]))
        if sort in QUESTIONS:
            return answer(sort, self.book[parts[0]])
        return self.change(sort, parts)

    def change(self, sort, parts):
        """Changes the book as a line tells, and tells what is said of it."""
        if sort == "=":
            self.book[parts[0]] = parts[1]
            return Table.of(parts[1]).text
        if sort == "drop":
            self.book.drop(parts[0])
        elif sort == "undo":
            self.book.undo()
        else:
            self.book.claim((sort,) + parts)
        return "ok"


def answer(sort, word):
    """The text that is asked for of a word."""
    if sort == "table":
        return Table.of(word).text
    if sort == "second":
        return pair_of(word)[1].text
    return word_text(word if sort == "word" else highest(word))


def line_told(line):
    """The sort of a line and its other parts, in a tuple; None if it is no line."""
    if not isinstance(line, str):
        return None
    words = line.split(" ")
    if words == ["undo"]:
        return "undo", ()
    if words[0] == "drop" and len(words) == 2:
        return ("drop", (words[1],)) if is_name(words[1]) else None
    reckoning = reckoning_told(words)
    if reckoning is not None:
        return reckoning
    if len(words) < 2 or not is_name(words[0]):
        return None
    parts = parts_told(words[1], words[2:])
    return None if parts is None else (words[1], (words[0],) + parts)


def reckoning_told(words):
    """The sort and the shapes of what is to be reckoned with shapes alone; None if it is none of this."""
    sort, most = words[0], MOST_BOXES if words[0] == "count" else MOST_LONG
    shapes = tuple([shape_told(text, most) for text in words[1:]])
    if None in shapes or (sort, len(shapes)) not in (("count", 1), ("join", 3), ("character", 2)):
        return None
    if sort == "character" and sum(shapes[0]) != sum(shapes[1]):
        return None
    return sort, shapes


def parts_told(sort, texts):
    """What the texts behind a name and the sort of a line tell, as a tuple; None if they do not fit."""
    if len(texts) == 0:
        return () if sort in QUESTIONS or sort == "highest" else None
    if len(texts) == 1:
        part = part_told(sort, texts[0])
        return None if part is None else (part,)
    if len(texts) != 2 or sort not in OF_TOTALS:
        return None
    many, total = number_told(texts[0]), number_told(texts[1])
    return (many, total) if is_between(many, 1, MOST_LONG) and is_between(total, 0, MOST_LONG) else None


def part_told(sort, text):
    """What the one text behind a name and the sort of a line tells; None if it does not fit."""
    if sort in OF_TWO:
        return text if is_name(text) else None
    if sort == "=":
        return word_told(text)
    return shape_told(text, MOST_LONG) if sort == "shape" else None
