"""Lines and logs: wordshapes.logs."""

import unittest
from random import Random

from tests import brute
from tests.samples import TWELVE
from tests.wrong import HUGE, NO_TEXTS, NO_TUPLES, look_at, look_for_errors, raised, same_by_name
from wordshapes.benches import Bench
from wordshapes.errors import (
    InvalidLetter, InvalidLine, InvalidLog, InvalidNumber, InvalidPlace, NoMove, NotStandard, TooMany, UnlikeShapes,
)
from wordshapes.logs import done, played

NEARLY = [
    "", " ", "write", "write ", "write  1", " write 1", "write 1 ", "write 1\n", "write\n1", "write 01", "write 00", "write +1", "write -1", "write 1.0",
    "write 1.", "write .1", "write one", "write 1 2", "write 1,", "write 1_0", "Write 1", "WRITE 1", "write1", "write 0x1", "write 1e1", "write (1)",
    "erase ", " erase", "erase 1", "erase -", "Erase", "eras", "erases", "raise", "raise ", "raise 01", "raise_at 1", "lower", "lower 1 1", "mirror",
    "mirror\n1", "move", "move -0", "move 00", "move - 1", "turn", "turn 012", "undo", "trial", "table", "table ", "table  -", "table - ", "table 1/1",
    "table 2/1", "table 1.2.1", "table 1/1.2", "table 1./2", "table .1", "table 1//2", "table /", "table 1/", "table /1", "table 1.01", "table 0", "table 13",
    "table 1.13", "table -/-", "table 1/-", "table -/1", "table 1.1.1.1.1.1.1.1.1.1.1.1.1", "table 1.2/3 ", "table 1 2", "table 1,2", "table (1, 2)",
    "table _.1", "table 1/2/3/4/5/6/7/8/9/10/11/12/13", "second", "second ", "second 2/1", "second 1.2/", "second -1", "second 1.2\n", "tables 1",
    "write 1\nwrite 1", "erase\n", "-", "=", "1", "write" * 700, "table 1" + ".1" * 1900, "move " + "0" * 3000, "{write 1}", "write {1}", "~" * 4000,
]
NO_LINES = NO_TEXTS + NEARLY


def shown(bench):
    return bench.word, bench.table.rows, bench.second.rows, bench.shape, bench.changes, bench.log


class Done(unittest.TestCase):
    def test_each_sort_of_line(self):
        bench = Bench()
        steps = [
            ("write 2", (2,)), ("write 1", (2, 1)), ("write 3", (2, 1, 3)), ("write 1", (2, 1, 3, 1)), ("write 2", (2, 1, 3, 1, 2)),
            ("raise 1", (2, 1, 3, 1, 1)), ("lower 1", (2, 1, 3, 1, 2)), ("lower 2", (3, 1, 3, 1, 2)), ("mirror 2", (2, 1, 3, 1, 2)),
            ("move 0", (2, 3, 1, 1, 2)), ("turn 3", (2, 3, 3, 1, 2)), ("turn 12", (11, 12, 10, 10, 11)), ("erase", (11, 12, 10, 10)),
            ("table 1.2/3.4", (3, 4, 1, 2)), ("second 1.3/2.4", (3, 1, 4, 2)), ("write 12", (3, 1, 4, 2, 12)),
        ]
        for many, (line, word) in enumerate(steps, start=1):
            self.assertIsNone(done(bench, line))
            self.assertEqual([bench.word, bench.changes, bench.log], [word, many, tuple(line for line, _ in steps[:many])])

    def test_the_empty_table(self):
        bench = Bench()
        done(bench, "table -")
        done(bench, "second -")
        self.assertEqual([bench.log, bench.word], [("table -", "second -"), ()])

    def test_the_errors_of_the_deeds(self):
        wanted = {
            "write 0": (InvalidLetter, 0), "write 13": (InvalidLetter, 13), "raise 0": (InvalidLetter, 0), "raise 12": (InvalidLetter, 12),
            "raise 1": (NoMove, None), "lower 2": (NoMove, None), "lower 12": (InvalidLetter, 12), "mirror 12": (InvalidLetter, 12),
            "move 0": (NoMove, None), "move 2": (InvalidPlace, 2), "move 40": (InvalidPlace, 40), "turn 0": (InvalidNumber, 0),
            "turn 13": (InvalidNumber, 13), "table 1": (UnlikeShapes, None), "table -": (UnlikeShapes, None), "second 1.1": (NotStandard, None),
            "second 1/2": (UnlikeShapes, None), "write " + "9" * 3000: (InvalidLetter, 10 ** 3000 - 1),
        }
        for line, (error, given) in wanted.items():
            bench = played(("write 1", "write 1"))
            before = shown(bench)
            told = raised(done, bench, line)
            self.assertIs(told.__class__, error, line)
            self.assertEqual(getattr(told, "given", None), given)
            self.assertEqual(shown(bench), before)
        full = played(("write 3",) * 12)
        self.assertIs(raised(done, full, "write 3").__class__, TooMany)
        self.assertIs(raised(done, Bench(), "erase").__class__, NoMove)

    def test_what_is_no_line(self):
        for value in NO_LINES:
            bench = played(("write 2", "write 1"))
            before = shown(bench)
            look_at(self, raised(done, bench, value), InvalidLine, value)
            look_at(self, raised(done, line=value, bench=bench), InvalidLine, value)
            self.assertEqual(shown(bench), before)

    def test_the_right_lines_beside_these(self):
        for line in ["write 1", "write 10", "erase", "raise 2", "lower 2", "mirror 1", "move 0", "turn 3", "table 1.3/2", "second 1.2/3"]:
            self.assertIsNone(done(played(("write 2", "write 1", "write 3")), line))

    def test_by_name(self):
        bench = Bench()
        self.assertIsNone(done(line="write 2", bench=bench))
        self.assertEqual([bench.word, played(lines=("write 2",)).word], [(2,), (2,)])


class Played(unittest.TestCase):
    def drawn(self, seed):
        """A bench on which drawn deeds have been done."""
        dice, bench = Random(seed), Bench()
        for _ in range(60):
            deed = dice.choice(["write", "write", "write", "raise_at", "lower_at", "mirror_at", "move", "turn", "erase", "table", "second", "undo"])
            if deed in ("erase", "undo"):
                raised(getattr(bench, deed))
            elif deed == "table":
                raised(bench.take_table, type(bench.table).of(dice.choice(TWELVE)[:len(bench.word)]))
            elif deed == "second":
                tables = list(brute.standard_tables(bench.shape))
                bench.take_second(type(bench.table)(dice.choice(tables)))
            else:
                raised(getattr(bench, deed), dice.randint(0, 12))
        return bench

    def test_logs_are_played_again(self):
        for seed in range(12):
            bench = self.drawn(seed)
            again = played(bench.log)
            self.assertEqual(shown(again), shown(bench))
            self.assertIsNot(again, bench)
            while bench.changes:
                bench.undo()
                again.undo()
                self.assertEqual(shown(again), shown(bench))

    def test_the_log_within_a_trial(self):
        bench = self.drawn(3)
        with bench.trial():
            bench.undo()
            self.assertEqual(shown(played(bench.log)), shown(bench))

    def test_no_lines(self):
        self.assertEqual(shown(played(())), shown(Bench()))

    def test_the_first_line_that_fails(self):
        good = ("write 2", "write 1", "write 3", "raise 2")
        for at in range(len(good) + 1):
            for bad in ["write 0", "raise 11", "move 9", "table 1/2/3/4", "turn 0", None, ("write 1",), 3, "", "write 01", "second 1.1", b"erase"]:
                error = raised(played, good[:at] + (bad, "write 13", None) + good[at:])
                self.assertEqual([error.__class__, error.index], [InvalidLog, at])
        self.assertEqual(raised(played, ("erase",)).index, 0)
        self.assertEqual(raised(played, ("write 1",) * 14).index, 12)
        for value in NO_LINES:
            self.assertEqual(raised(played, ("write 1", "write 2", value)).index, 2)

    def test_what_is_no_tuple(self):
        for value in NO_TUPLES + [HUGE, "write 1", ["write 1"], {"write 1": 1}]:
            error = raised(played, value)
            self.assertEqual([error.__class__, error.index], [InvalidLog, None])
            self.assertEqual([raised(played, lines=value).index], [None])

    def test_by_place_and_by_name(self):
        self.assertEqual(shown(played(lines=("write 2", "write 1"))), shown(played(("write 2", "write 1"))))
        look_for_errors(self, lambda line: done(Bench(), line), ("line", "write 1", [(InvalidLine, NO_LINES)]))
        same_by_name(self, lambda lines: played(lines).word, lines=("write 2",))


if __name__ == "__main__":
    unittest.main()
