"""Benches: wordshapes.benches."""

import unittest
from random import Random

from tests import brute_sums
from tests.samples import MIDDLE, SHORT, TWELVE
from tests.wrong import LETTERS, NO_TABLES, look_for_errors, numbers, raised, same_by_name
from wordshapes.benches import Bench
from wordshapes.errors import (
    InvalidLetter, InvalidNumber, InvalidPlace, NoMove, NotATable, NothingToUndo, NotStandard, TooMany, UnlikeShapes,
)
from wordshapes.moves import moved
from wordshapes.pairs import pair_of, word_of
from wordshapes.strings import lowered, mirrored
from wordshapes.strings import raised as raised_at
from wordshapes.tables import Table
from wordshapes.words import turned

WORDS = SHORT[::11] + MIDDLE[::3] + TWELVE[::9]


def bench_of(word):
    bench = Bench()
    for letter in word:
        bench.write(letter)
    return bench


def shown(bench):
    """All that a bench shows."""
    return bench.word, bench.table.rows, bench.second.rows, bench.shape, bench.changes, bench.log


class Failure(Exception):
    pass


class BenchTest(unittest.TestCase):
    def look_at(self, bench, word, log):
        first, second = pair_of(word)
        self.assertEqual(shown(bench), (word, first.rows, second.rows, first.shape, len(log), tuple(log)))
        self.assertIsInstance(bench.table, Table)
        self.assertIsInstance(bench.second, Table)

    def look_at_refused(self, bench, wanted, action, *given):
        before = shown(bench)
        error = raised(action, *given)
        self.assertIs(error.__class__, wanted)
        if given and "given" in vars(error):
            self.assertIs(error.given, given[0])
        self.assertEqual(shown(bench), before)
        return error

    def look_at_deed(self, word, name, function, given, line):
        """A deed that does what a function does, or is refused with the error of it."""
        bench = bench_of(word)
        action = getattr(bench, name)
        error = raised(function, word, given)
        if error is not None:
            self.look_at_refused(bench, error.__class__, action, given)
            return
        log = bench.log + (f"{line} {given}",)
        self.assertIsNone(action(given))
        self.look_at(bench, function(word, given), log)
        bench.undo()
        self.look_at(bench, word, log[:-1])


class Deeds(BenchTest):
    def test_a_new_bench(self):
        self.look_at(Bench(), (), [])

    def test_writing_and_erasing(self):
        for word in WORDS:
            bench, log = Bench(), []
            for many, letter in enumerate(word, start=1):
                self.assertIsNone(bench.write(letter))
                log.append(f"write {letter}")
                self.look_at(bench, word[:many], log)
            for many in reversed(range(len(word))):
                self.assertIsNone(bench.erase())
                log.append("erase")
                self.look_at(bench, word[:many], log)
            self.look_at_refused(bench, NoMove, bench.erase)

    def test_twelve_letters(self):
        bench = bench_of((12,) * 12)
        error = self.look_at_refused(bench, TooMany, bench.write, 1)
        self.assertEqual(error.limit, 12)
        self.look_at_refused(bench, InvalidLetter, bench.write, 13)
        bench.erase()
        bench.write(1)
        self.assertEqual(bench.word, (12,) * 11 + (1,))

    def test_raising_lowering_and_mirroring(self):
        for word in WORDS:
            for letter in range(0, 13):
                self.look_at_deed(word, "raise_at", raised_at, letter, "raise")
                self.look_at_deed(word, "lower_at", lowered, letter, "lower")
                self.look_at_deed(word, "mirror_at", mirrored, letter, "mirror")

    def test_moving_and_turning(self):
        for word in WORDS:
            for number in range(-1, 14):
                self.look_at_deed(word, "move", moved, number, "move")
                self.look_at_deed(word, "turn", turned, number, "turn")

    def test_taking_tables(self):
        for word in WORDS:
            for other in WORDS:
                first, second = pair_of(other)
                bench = bench_of(word)
                log = bench.log
                if first.shape == bench.shape:
                    self.assertIsNone(bench.take_table(first))
                    self.look_at(bench, word_of(first, pair_of(word)[1]), log + (f"table {first.text}",))
                    self.assertEqual(bench.second, pair_of(word)[1])
                    bench.undo()
                    self.assertIsNone(bench.take_second(second))
                    self.look_at(bench, word_of(pair_of(word)[0], second), log + (f"second {second.text}",))
                    self.assertEqual(bench.table, pair_of(word)[0])
                else:
                    self.look_at_refused(bench, UnlikeShapes, bench.take_table, first)
                    self.look_at_refused(bench, UnlikeShapes, bench.take_second, second)

    def test_a_second_table_that_is_not_standard(self):
        bench = bench_of((2, 1, 2))
        self.look_at_refused(bench, NotStandard, bench.take_second, Table(((1, 1), (2,))))
        self.look_at_refused(bench, UnlikeShapes, bench.take_second, Table(((1, 1, 1),)))
        self.look_at_refused(bench, NotATable, bench.take_second, ((1, 2), (3,)))

    def test_deeds_that_change_nothing_count(self):
        bench = bench_of((1, 1))
        bench.mirror_at(5)
        bench.take_table(bench.table)
        bench.take_second(bench.second)
        self.look_at(bench, (1, 1), ["write 1", "write 1", "mirror 5", "table 1.1", "second 1.2"])
        empty = Bench()
        empty.take_table(Table(()))
        empty.take_second(Table(()))
        empty.turn(7)
        self.look_at(empty, (), ["table -", "second -", "turn 7"])

    def test_only_one_object_is_equal(self):
        one, other = Bench(), Bench()
        self.assertTrue(one == one and one != other and not one == other and one and one != ())

    def test_by_name(self):
        bench = Bench()
        for letter in (2, 1, 3, 1, 2):
            bench.write(letter=letter)
        bench.raise_at(letter=1)
        bench.lower_at(letter=1)
        bench.mirror_at(letter=2)
        bench.move(place=0)
        bench.turn(most=4)
        bench.take_table(table=Table(((1, 1, 1), (2, 2))))
        bench.take_second(second=Table(((1, 2, 3), (4, 5))))
        self.assertEqual(len(bench.log), 12)
        self.assertEqual(bench.tried(action=lambda held: held.word), bench.word)
        self.assertEqual(same_by_name(self, word_of, first=bench.table, second=bench.second), bench.word)


class Wrong(BenchTest):
    def test_letters_and_numbers(self):
        bench = bench_of((2, 1, 3))
        look_for_errors(self, bench.tried(lambda held: held).write, ("letter", 1, [(InvalidLetter, LETTERS)]))
        look_for_errors(self, bench_of((2, 1, 2)).raise_at, ("letter", 1, [(InvalidLetter, numbers(1, 11))]))
        look_for_errors(self, bench_of((1, 1)).lower_at, ("letter", 1, [(InvalidLetter, numbers(1, 11))]))
        look_for_errors(self, bench.mirror_at, ("letter", 1, [(InvalidLetter, numbers(1, 11))]))
        look_for_errors(self, bench_of((2, 1, 3)).move, ("place", 0, [(InvalidPlace, numbers(0, 2))]))
        look_for_errors(self, bench_of((2, 1, 3)).turn, ("most", 3, [(InvalidNumber, numbers(3, 12) + [1, 2])]))

    def test_tables(self):
        bench = bench_of((2, 1, 3))
        for name in ("take_table", "take_second"):
            look_for_errors(self, getattr(bench, name), (name[5:], Table(((1, 3), (2,))), [(NotATable, NO_TABLES)]))

    def test_nothing_is_changed(self):
        bench = bench_of((2, 1, 3))
        for value in LETTERS:
            for action in (bench.write, bench.raise_at, bench.lower_at, bench.mirror_at):
                self.look_at_refused(bench, InvalidLetter, action, value)


class Undoing(BenchTest):
    def drawn_deeds(self, bench, dice, many):
        """Does drawn deeds, and tells what the bench showed ahead of each one that was not refused."""
        before = []
        for _ in range(many):
            now = shown(bench)
            deed = dice.choice(["write", "write", "raise_at", "lower_at", "mirror_at", "move", "turn", "erase", "second"])
            if deed == "erase":
                error = raised(bench.erase)
            elif deed == "second":
                tables = list(brute_sums.brute.standard_tables(bench.shape))
                error = raised(bench.take_second, Table(dice.choice(tables)))
            else:
                error = raised(getattr(bench, deed), dice.randint(0, 5))
            if error is None:
                before.append(now)
            else:
                self.assertEqual(shown(bench), now)
        return before

    def test_back_to_the_empty_word(self):
        for seed in range(8):
            bench = Bench()
            before = self.drawn_deeds(bench, Random(seed), 50)
            self.assertEqual(bench.changes, len(before))
            for wanted in reversed(before):
                self.assertIsNone(bench.undo())
                self.assertEqual(shown(bench), wanted)
            self.look_at(bench, (), [])
            self.look_at_refused(bench, NothingToUndo, bench.undo)

    def test_other_deeds_behind_undoing(self):
        bench = bench_of((2, 1))
        bench.undo()
        bench.write(3)
        self.look_at(bench, (2, 3), ["write 2", "write 3"])

    def test_trials_over_drawn_deeds(self):
        for seed in range(8):
            dice, bench = Random(seed), Bench()
            self.drawn_deeds(bench, dice, 15)
            wanted = shown(bench)
            with bench.trial() as held:
                self.assertIs(held, bench)
                self.drawn_deeds(bench, dice, 15)
                for _ in range(bench.changes // 2):
                    bench.undo()
                self.drawn_deeds(bench, dice, 5)
            self.assertEqual(shown(bench), wanted)


class Trials(BenchTest):
    def test_what_was_done_is_taken_back(self):
        bench = bench_of((2, 1))
        with bench.trial() as held:
            held.write(3)
            self.look_at(bench, (2, 1, 3), ["write 2", "write 1", "write 3"])
        self.look_at(bench, (2, 1), ["write 2", "write 1"])

    def test_deeds_from_before_can_be_taken_back(self):
        bench = bench_of((2, 1, 3))
        with bench.trial():
            bench.undo()
            bench.undo()
            bench.undo()
            self.look_at_refused(bench, NothingToUndo, bench.undo)
            bench.write(5)
        self.look_at(bench, (2, 1, 3), ["write 2", "write 1", "write 3"])
        for many in (2, 1, 0):
            bench.undo()
            self.assertEqual(bench.word, (2, 1, 3)[:many])

    def test_trials_within_trials(self):
        bench = bench_of((1,))
        with bench.trial():
            bench.write(2)
            with bench.trial():
                bench.write(3)
                bench.undo()
                bench.undo()
                bench.undo()
            self.look_at(bench, (1, 2), ["write 1", "write 2"])
            with bench.trial():
                bench.write(4)
            self.look_at(bench, (1, 2), ["write 1", "write 2"])
        self.look_at(bench, (1,), ["write 1"])

    def test_the_same_trial_within_itself(self):
        bench = bench_of((1,))
        trial = bench.trial()
        bench.write(2)
        with trial as held:
            self.assertIs(held, bench)
            bench.write(3)
            with trial:
                bench.erase()
                with trial:
                    bench.erase()
                self.look_at(bench, (1, 2), ["write 1", "write 2", "write 3", "erase"])
            self.look_at(bench, (1, 2, 3), ["write 1", "write 2", "write 3"])
        self.look_at(bench, (1, 2), ["write 1", "write 2"])
        bench.write(7)
        with trial:
            bench.write(8)
        self.look_at(bench, (1, 2, 7), ["write 1", "write 2", "write 7"])

    def test_two_trials_in_turns(self):
        bench = bench_of((1,))
        one, other = bench.trial(), bench.trial()
        with one:
            bench.write(2)
            with other:
                bench.write(3)
                with one:
                    bench.write(4)
                self.assertEqual(bench.word, (1, 2, 3))
            self.assertEqual(bench.word, (1, 2))
        self.assertEqual(bench.word, (1,))

    def test_exceptions_are_passed_on(self):
        for failure in (Failure("why"), KeyError(3), KeyboardInterrupt(), TooMany(5)):
            bench = bench_of((2, 1))
            with self.assertRaises(failure.__class__) as caught:
                with bench.trial():
                    bench.undo()
                    bench.write(4)
                    raise failure
            self.assertIs(caught.exception, failure)
            self.look_at(bench, (2, 1), ["write 2", "write 1"])

    def test_an_exception_through_two_trials(self):
        bench = bench_of((2, 1))
        trial = bench.trial()
        with self.assertRaises(InvalidLetter):
            with trial:
                bench.write(1)
                with trial:
                    bench.write(1)
                    bench.write(0)
        self.look_at(bench, (2, 1), ["write 2", "write 1"])

    def test_a_return_out_of_a_trial(self):
        bench = bench_of((2, 1))

        def word_within():
            with bench.trial() as held:
                held.write(9)
                return held.word

        self.assertEqual(word_within(), (2, 1, 9))
        self.assertEqual(bench.word, (2, 1))

    def test_tried(self):
        bench = bench_of((2, 1))
        told = []
        self.assertEqual(bench.tried(lambda held: (told.append(held), held.write(3), held.word, held.changes)), (None, None, (2, 1, 3), 3))
        self.assertIs(told[0], bench)
        self.look_at(bench, (2, 1), ["write 2", "write 1"])
        self.assertIsNone(bench.tried(lambda held: held.undo()))
        self.assertEqual(bench.tried(lambda held: held.tried(lambda again: again.erase()) or held.word), (2, 1))
        self.look_at(bench, (2, 1), ["write 2", "write 1"])

    def test_tried_passes_exceptions_on(self):
        bench = bench_of((2, 1))
        failure = Failure()

        def action(held):
            held.undo()
            held.write(7)
            raise failure

        self.assertIs(raised(bench.tried, action), failure)
        self.assertIs(raised(bench.tried, lambda held: held.write(0)).__class__, InvalidLetter)
        self.look_at(bench, (2, 1), ["write 2", "write 1"])

    def test_a_trial_that_stands_open_is_of_its_own_bench(self):
        one, other = bench_of((1,)), bench_of((2,))
        with one.trial():
            one.write(3)
            other.write(4)
        self.assertEqual([one.word, other.word], [(1,), (2, 4)])


if __name__ == "__main__":
    unittest.main()
