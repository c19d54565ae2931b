"""The console: wordshapes.console."""

import unittest

from tests import brute, brute_claims, brute_sums
from tests.samples import LONG, MIDDLE, SHORT
from tests.test_books import shown
from tests.wrong import NO_TEXTS, look_at, raised
from wordshapes.books import Book
from wordshapes.console import Console
from wordshapes.errors import Broken, InUse, InvalidLine, NothingToUndo, UnknownName
from wordshapes.pairs import pair_of
from wordshapes.tables import Table
from wordshapes.words import word_text

NAMES = ["w", "abcdefgh", "drop", "undo", "count", "join", "alike", "web", "heavier", "shape", "rising", "falling", "highest", "table", "second", "word", "top"]
GOOD = [
    "w = 2.1", "w = -", "w = 12.12", "drop w", "undo", "w alike v", "w web v", "w heavier v", "w shape 2.1", "w shape -", "w rising 1 2", "w falling 12 0",
    "w highest", "w table", "w second", "w word", "w top", "count 3.2", "count -", "count 40", "join 2.1 2.1 3.2.1", "join - - -", "character 2.1 3",
    "character - -", "count table", "drop highest", "join rising 1 3", "join falling 2 2",
]
# What is nearly a line.
NEARLY = [
    "", " ", "-", "w", "=", "w =", "w = ", "= 2.1", "w=2.1", "w =2.1", "w= 2.1", "w == 2.1", "w = 2.1.", "w = .2", "w = 2..1", "w = 02.1", "w = 2.01", "w = 0",
    "w = 13", "w = 2,1", "w = 2 1", "w = +1", "w = -1", "w = --", "w = w", "w = 1.1.1.1.1.1.1.1.1.1.1.1.1", "w = 1/2", "w = ()", "W = 1", "w1 = 1", "1 = 1",
    "abcdefghi = 1", "toolongname = 1", "character = 2.1", "w = v = 1", "w : 1", "w := 1", "a.b = 1", "a_b = 1", "- = 1", "w = 1\n", "w\n= 1", "w = 1\nw = 2",
    "drop", "drop ", "drop  w", "drop W", "drop 1", "drop 2.1", "drop -", "drop abcdefghi", "drop character", "drop w v", "Drop w", "drop w ", " drop w",
    "undo ", " undo", "undo undo", "Undo", "undo 1", "undo w v", "redo", "w alike", "w alike ", "w alike  v", "w  alike v", "w alike v ", "w alike v w",
    "w alike V", "w alike 2.1", "w alike -", "w alike abcdefghi", "w like v", "w Alike v", "alike w v", "w web", "w web v v", "w web 1", "w heavier",
    "w heavier 2.1", "w heavier v 1", "w lighter v", "w shape", "w shape 1.2", "w shape 0", "w shape 2.0", "w shape 02", "w shape 13", "w shape 12.1",
    "w shape 2,1", "w shape v", "w shape 2.1 1", "w shape (2, 1)", "w shape 2.1.", "w rising", "w rising 1", "w rising 1 2 3", "w rising 0 2", "w rising 13 2",
    "w rising 1 13", "w rising 01 2", "w rising 1 02", "w rising 1 00", "w rising +1 2", "w rising 1 -1", "w rising 1 -", "w rising - 1", "w rising 1  2",
    "w rising 1.0 2", "w rising one 2", "w rising 1 2 ", "w falling", "w falling 1", "w falling 0 0", "w falling 13 0", "w falling 1 13", "w falling 012 1",
    "w falling 1 2 3", "w highest v", "w highest ", "w  highest", "highest w", "highest", "w Highest", "w lowest", "w table v", "w table ", "w tables",
    "table w", "table", "w second 1", "second w", "second", "w word w", "word", "w top 3", "top", "w bottom", "count", "count ", "count  3", "count 3 2",
    "count 1.2", "count 0", "count 41", "count 20.21", "count 03", "count 3.02", "count w", "count 3.2.", "count 3.2 ", "count " + ".".join(["1"] * 41),
    "Count 3", "join", "join 1", "join 1 1", "join 1 1 2 3", "join 1 1 1.2", "join 13 - 13", "join 1 13 14", "join w 1 2", "join 1  2", "join 1 1 2 ", "join 01 1 2",
    "join 1 0 1", "join 1,1 1 2", "character", "character 2.1", "character 2.1 3 1", "character 2.1 2", "character 2.1 4", "character - 1", "character 1 -",
    "character 1.2 3", "character 13 13", "character 03 3", "character 3 03", "character w v", "character highest", "character alike w", "character table",
    "characters 3 3", "character 3  3", "w ~ v", "{w} = 1", "w = {1}", "w alike v\n", "a" * 4000, "w = " + "1" * 3000, "count " + "1." * 1900 + "1",
    "w rising 1 " + "9" * 3000, " ".join(["w"] * 1000), ". = 1", "claim", "lift 0", "w drop", "w undo", "w count", "w join 1 2", "w character 3",
]


def console_with(**words):
    console = Console()
    for name, word in words.items():
        console.book[name] = word
    return console


class ConsoleTest(unittest.TestCase):
    def look_at_refused(self, console, wanted, line):
        before = shown(console.book)
        error = raised(console.say, line)
        self.assertIs(error.__class__, wanted, line)
        self.assertEqual(shown(console.book), before)
        return error

    def look_at_session(self, steps):
        """Says lines, one behind the other, and looks at what is returned, or raised."""
        console = Console()
        for line, wanted in steps:
            if isinstance(wanted, str):
                told = console.say(line)
                self.assertEqual([told, told.__class__], [wanted, str], line)
            else:
                error, given = wanted
                told = self.look_at_refused(console, error, line)
                self.assertEqual(list(vars(told).values()), given, line)
        return console.book


class Sessions(ConsoleTest):
    def test_words_and_claims(self):
        book = self.look_at_session([
            ("w alike v", (UnknownName, ["w"])), ("w = 2.1.2", "1.2/2"), ("w alike v", (UnknownName, ["v"])), ("v alike w", (UnknownName, ["v"])),
            ("v = 2.2.1", "1.2/2"), ("w alike v", "ok"), ("w web v", (Broken, [1])), ("w heavier v", "ok"), ("v heavier w", "ok"), ("w shape 2.1", "ok"),
            ("w rising 1 2", "ok"), ("w rising 2 3", "ok"), ("w rising 1 3", (Broken, [6])), ("v falling 1 2", "ok"), ("v falling 1 3", (Broken, [7])),
            ("v highest", (Broken, [7])), ("v = 1.2.2", (Broken, [0])), ("v top", "1.2.1"), ("u = 1.2.1", "1.1/2"), ("u highest", "ok"), ("drop v", (InUse, [0])),
            ("u = 1.2", (Broken, [7])), ("drop u", (InUse, [7])), ("undo", "ok"), ("drop u", "ok"), ("u table", (UnknownName, ["u"])), ("undo", "ok"),
            ("u table", "1.1/2"),
        ])
        self.assertEqual([book.names, len(book.claims), book.changes], [("u", "v", "w"), 7, 10])

    def test_the_empty_word(self):
        book = self.look_at_session([
            ("undo", (NothingToUndo, [])), ("e = -", "-"), ("e table", "-"), ("e second", "-"), ("e word", "-"), ("e top", "-"), ("e shape -", "ok"), ("e highest", "ok"),
            ("e rising 12 0", "ok"), ("e falling 1 0", "ok"), ("e rising 1 1", (Broken, [4])), ("f = 1", "1"), ("e heavier f", (Broken, [4])), ("f shape -", (Broken, [4])),
            ("e = 1", (Broken, [0])),
        ])
        self.assertEqual([book["e"], book["f"], book.changes], [(), (1,), 6])

    def test_all_taken_back(self):
        lines = ["w = 2.1", "v = 1.2", "w shape 1.1", "drop v", "w = 12.1", "w falling 1 2"]
        console, states = Console(), []
        for line in lines:
            states.append(shown(console.book))
            console.say(line)
        for wanted in reversed(states):
            self.assertEqual(console.say("undo"), "ok")
            self.assertEqual(shown(console.book), wanted)
        self.look_at_refused(console, NothingToUndo, "undo")

    def test_names_that_are_words_of_lines(self):
        for name in NAMES:
            ask = "ok" if name == "drop" else None
            book = self.look_at_session([
                (f"{name} = 2.1.2", "1.2/2"), (f"{name} alike {name}", "ok"), (f"{name} shape 2.1", "ok"), (f"{name} rising 1 2", "ok"),
                (f"{name} falling 1 2", "ok"), (f"{name} heavier {name}", "ok"), (f"{name} web {name}", "ok"),
                *([(f"{name} table", "1.2/2"), (f"{name} second", "1.3/2"), (f"{name} word", "2.1.2"), (f"{name} top", "2.1.1")] if ask is None else []),
                (f"drop {name}", (InUse, [0])), *[("undo", "ok")] * 6, (f"drop {name}", "ok"), (f"{name} alike {name}", (UnknownName, [name])),
            ])
            self.assertEqual(book.names, ())

    def test_lines_of_two_words_that_begin_with_drop(self):
        book = self.look_at_session([
            ("drop = 1.1", "1.1"), ("drop highest", (UnknownName, ["highest"])), ("drop table", (UnknownName, ["table"])), ("highest = 2", "2"), ("table = 3", "3"),
            ("drop highest", "ok"), ("drop table", "ok"), ("drop top", (UnknownName, ["top"])), ("drop drop", "ok"), ("drop drop", (UnknownName, ["drop"])),
            ("drop shape 2", (UnknownName, ["drop"])),
        ])
        self.assertEqual([book.names, book.changes], [(), 6])

    def test_counts_and_joins_ahead_of_names(self):
        self.look_at_session([
            ("count = 1.1", "1.1"), ("join = 2.1.2", "1.2/2"), ("count 3.2", "5"), ("count -", "1"), ("count highest", "ok"), ("count table", "1.1"),
            ("count second", "1.2"), ("count word", "1.1"), ("count top", "1.1"), ("join 1 1 2", "1"), ("join rising 1 2", "ok"), ("join falling 1 3", (Broken, [2])),
            ("join alike count", (Broken, [2])), ("join shape 2.1", "ok"), ("drop count", (InUse, [0])), ("count shape 2", "ok"), ("count alike join", (Broken, [4])),
            ("character shape 2", (InvalidLine, ["character shape 2"])), ("character alike count", (InvalidLine, ["character alike count"])),
        ])

    def test_unknown_names_ahead_of_what_is_done(self):
        self.look_at_session([
            ("w shape 2", (UnknownName, ["w"])), ("w rising 1 1", (UnknownName, ["w"])), ("w falling 1 1", (UnknownName, ["w"])), ("w highest", (UnknownName, ["w"])),
            ("w table", (UnknownName, ["w"])), ("w second", (UnknownName, ["w"])), ("w word", (UnknownName, ["w"])), ("w top", (UnknownName, ["w"])),
            ("drop w", (UnknownName, ["w"])), ("w alike v", (UnknownName, ["w"])), ("w = 2.1", "1/2"), ("w web v", (UnknownName, ["v"])),
            ("v web w", (UnknownName, ["v"])), ("v heavier u", (UnknownName, ["v"])), ("w shape 2", (Broken, [0])),
        ])


class Lines(ConsoleTest):
    def test_right_lines(self):
        for line in GOOD:
            console = console_with(w=(2, 1, 2), v=(2, 1, 2), count=(1,), highest=(1,), join=(2, 1, 2))
            console.book.claim(("web", "v", "v"))
            error = raised(console.say, line)
            self.assertIn(error.__class__, (None.__class__, Broken), line)

    def test_what_is_no_line(self):
        for value in NO_TEXTS + NEARLY:
            console = console_with(w=(2, 1, 2), v=(2, 1, 2))
            console.book.claim(("alike", "w", "v"))
            look_at(self, self.look_at_refused(console, InvalidLine, value), InvalidLine, value)
            look_at(self, raised(console.say, line=value), InvalidLine, value)
            look_at(self, raised(Console().say, value), InvalidLine, value)

    def test_right_lines_bent_by_spaces(self):
        for line in GOOD:
            for at in [at for at, sign in enumerate(line) if sign == " "]:
                for bent in [line[:at] + " " + line[at:], line[:at] + "\t" + line[at + 1:], line[:at] + "\n" + line[at + 1:], line[:at] + line[at + 1:]]:
                    if bent not in ("undo", "wtop"):
                        self.look_at_refused(console_with(w=(2, 1), v=(2, 1)), InvalidLine, bent)
            for bent in (line + " ", " " + line, line + "\n", line.upper() if line != line.upper() else line + "."):
                self.look_at_refused(console_with(w=(2, 1), v=(2, 1)), InvalidLine, bent)

    def test_what_words_are_asked(self):
        for word in SHORT[::9] + MIDDLE[::3] + LONG:
            console, text = Console(), word_text(word)
            self.assertEqual(console.say(f"w = {text}"), Table(brute.table_of(word)).text)
            self.assertEqual(console.say("w table"), Table(brute.table_of(word)).text)
            self.assertEqual(console.say("w second"), pair_of(word)[1].text)
            self.assertEqual(console.say("w word"), text)
            self.assertEqual(console.say("w top"), word_text(brute_claims.top(word)))
            self.assertEqual(console.book["w"], word)

    def test_counts(self):
        for size in range(9):
            for shape in brute.parted(size):
                self.assertEqual(Console().say(f"count {word_text(shape)}"), str(brute.standard_count(shape)))
        for text, shape in {"40": (40,), "20.20": (20, 20), ".".join(["1"] * 40): (1,) * 40, "10.9.8.7.6": (10, 9, 8, 7, 6)}.items():
            self.assertEqual(Console().say(f"count {text}"), str(brute.standard_count(shape)))

    def test_joins(self):
        for first in brute.parted(3) + [()]:
            for second in brute.parted(2) + [()]:
                for third in brute.parted(5) + brute.parted(2):
                    line = f"join {word_text(first)} {word_text(second)} {word_text(third)}"
                    self.assertEqual(Console().say(line), str(brute_claims.join_count(first, second, third)))
        self.assertEqual([Console().say("join 12 - 12"), Console().say("join 12 12 12"), Console().say("join 6.6 - 12")], ["1", "0", "0"])

    def test_characters(self):
        for size in range(6):
            for shape in brute.parted(size):
                for cycle in brute.parted(size):
                    line = f"character {word_text(shape)} {word_text(cycle)}"
                    self.assertEqual(Console().say(line), str(brute_sums.character(shape, cycle)))
        self.assertEqual(Console().say("character 12 12"), "1")

    def test_asking_changes_nothing(self):
        console = console_with(w=(2, 1, 2))
        before = shown(console.book)
        for line in ["w table", "w second", "w word", "w top", "count 3.2", "join 1 1 2", "character 2 2"]:
            console.say(line)
        self.assertEqual(shown(console.book), before)

    def test_the_book(self):
        console = Console()
        self.assertIsInstance(console.book, Book)
        self.assertIs(console.book, console.book)
        console.book["v"] = (2, 1)
        self.assertEqual(console.say(line="v table"), "1/2")
        self.assertIsNot(Console().book, console.book)
        self.assertFalse(Console() == console)

    def test_all_claims_are_of_the_book(self):
        lines = ["v alike w", "v web w", "v heavier w", "v shape 2.1", "v rising 1 2", "v falling 12 3", "v highest"]
        claims = [
            ("alike", "v", "w"), ("web", "v", "w"), ("heavier", "v", "w"), ("shape", "v", (2, 1)), ("rising", "v", 1, 2), ("falling", "v", 12, 3), ("highest", "v"),
        ]
        console = console_with(v=(1, 2, 1), w=(1, 2, 1))
        self.assertEqual([console.say(line) for line in lines], ["ok"] * 7)
        self.assertTrue(brute_claims.same(console.book.claims, tuple(claims)))


if __name__ == "__main__":
    unittest.main()
