"""Benches: words led by deeds, with a log, undoing and trials."""

from wordshapes.checks import check_letter
from wordshapes.errors import NoMove, NothingToUndo, TooMany
from wordshapes.limits import MOST_LONG
from wordshapes.moves import moved
from wordshapes.pairs import pair_of, word_of
from wordshapes.strings import lowered, mirrored, raised
from wordshapes.words import turned


class Bench:
    """A word, at first the empty one, led by deeds."""

    def __init__(self):
        self.show(((),), ())

    def show(self, words, log):
        """Shows the last one of the words, to which the deeds with these lines have led, one by one."""
        self.words = words
        self.word = words[-1]
        self.table, self.second = pair_of(self.word)
        self.shape = self.table.shape
        self.changes = len(log)
        self.log = log

    def lead_to(self, word, line):
        """Shows the word to which one deed more, with this line, has led."""
        self.show(self.words + (word,), self.log + (line,))

    def write(self, letter):
        """Writes a letter behind the last one."""
        check_letter(letter)
        if len(self.word) == MOST_LONG:
            raise TooMany(MOST_LONG)
        self.lead_to(self.word + (letter,), f"write {letter}")

    def erase(self):
        """Strikes the last letter."""
        if not self.word:
            raise NoMove()
        self.lead_to(self.word[:-1], "erase")

    def raise_at(self, letter):
        """Raises the word at a letter."""
        self.lead_to(raised(self.word, letter), f"raise {letter}")

    def lower_at(self, letter):
        """Lowers the word at a letter."""
        self.lead_to(lowered(self.word, letter), f"lower {letter}")

    def mirror_at(self, letter):
        """Mirrors the word at a letter."""
        self.lead_to(mirrored(self.word, letter), f"mirror {letter}")

    def move(self, place):
        """Makes the move at a place."""
        self.lead_to(moved(self.word, place), f"move {place}")

    def turn(self, most):
        """Turns the word with a number."""
        self.lead_to(turned(self.word, most), f"turn {most}")

    def take_table(self, table):
        """Takes the word that has this table, and the second table as it was."""
        self.lead_to(word_of(table, self.second), f"table {table.text}")

    def take_second(self, second):
        """Takes the word that has the table as it was, and this second one."""
        self.lead_to(word_of(self.table, second), f"second {second.text}")

    def undo(self):
        """Takes back the last deed."""
        if not self.log:
            raise NothingToUndo()
        self.show(self.words[:-1], self.log[:-1])

    def trial(self):
        """For a `with` statement, at the end of which the bench is as it was."""
        return BenchTrial(self)

    def tried(self, action):
        """Calls a function with the bench within a trial, and returns what it returns."""
        with self.trial() as bench:
            return action(bench)


class KeptBench:
    """What a bench showed when the rows of a trial began, and what was kept for the rows around these."""

    def __init__(self, bench, around):
        self.words = bench.words
        self.word = bench.word
        self.table = bench.table
        self.second = bench.second
        self.shape = bench.shape
        self.changes = bench.changes
        self.log = bench.log
        self.around = around


class BenchTrial:
    """Rows of a program at the end of which a bench is as it was; the same one may stand within itself."""

    def __init__(self, bench):
        self.bench = bench
        self.kept = None

    def __enter__(self):
        self.kept = KeptBench(self.bench, self.kept)
        return self.bench

    def __exit__(self, kind, value, trace):
        self.bench.words = self.kept.words
        self.bench.word = self.kept.word
        self.bench.table = self.kept.table
        self.bench.second = self.kept.second
        self.bench.shape = self.kept.shape
        self.bench.changes = self.kept.changes
        self.bench.log = self.kept.log
        self.kept = self.kept.around
