"""Lines of deeds: done on a bench, and whole logs played."""

from wordshapes.benches import Bench
from wordshapes.errors import InvalidLine, InvalidLog, NoAnswer, WrongValue
from wordshapes.tables import table_told
from wordshapes.texts import number_told

WITH_NUMBER = ("write", "raise", "lower", "mirror", "move", "turn")
WITH_TABLE = ("table", "second")


def done(bench, line):
    """Does the deed of a line on a bench."""
    deed = deed_told(line)
    if deed is None:
        raise InvalidLine(line)
    name, given = deed
    if name in WITH_NUMBER:
        do_with_number(bench, name, given)
    elif name == "table":
        bench.take_table(given)
    elif name == "second":
        bench.take_second(given)
    else:
        bench.erase()


def deed_told(line):
    """The name of the deed of a line, and what is given for it; None if it is no line."""
    if not isinstance(line, str):
        return None
    if line == "erase":
        return line, None
    name, _, rest = line.partition(" ")
    given = None
    if name in WITH_NUMBER:
        given = number_told(rest)
    elif name in WITH_TABLE:
        given = table_told(rest)
    return None if given is None else (name, given)


def do_with_number(bench, name, number):
    """Does a deed on a bench for which a number is given."""
    if name == "write":
        bench.write(number)
    elif name == "raise":
        bench.raise_at(number)
    elif name == "lower":
        bench.lower_at(number)
    elif name == "mirror":
        bench.mirror_at(number)
    elif name == "move":
        bench.move(number)
    else:
        bench.turn(number)


def played(lines):
    """A new bench on which the deeds of lines have been done."""
    if not isinstance(lines, tuple):
        raise InvalidLog(None)
    bench = Bench()
    for index, line in enumerate(lines):
        try:
            done(bench, line)
        except (WrongValue, NoAnswer):
            raise InvalidLog(index) from None
    return bench
