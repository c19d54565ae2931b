"""Turns: point 20, and wordshapes.turns."""

import unittest

from tests import brute, brute_sums
from tests.samples import LONG, TWELVE
from tests.wrong import HUGE, NO_TABLES, look_for_errors, numbers, raised, same_by_name
from wordshapes.errors import InvalidLetter, InvalidNumber, NotATable, TooMany
from wordshapes.tables import Table
from wordshapes.turns import demoted, evacuated, period, promoted, promoted_often, toggled

SMALL = [Table(rows) for size in range(6) for shape in brute.parted(size) for rows in brute.tables(shape, 4)]
GREAT = [Table(brute.table_of(word)) for word in TWELVE]
STANDARD = [Table(rows) for size in range(8) for shape in brute.parted(size) for rows in brute.standard_tables(shape)]
RECTANGLES = [(1,), (4,), (1, 1, 1), (2, 2), (3, 3), (2, 2, 2), (4, 4), (3, 3, 3), (2, 2, 2, 2), (5, 5)]
LATE = Table(((1, 1, 2, 2, 6, 7), (2, 4, 10), (8, 9), (10,)))
TOO_LATE = Table(((1, 1, 1, 5, 10), (2, 2, 9), (7, 7), (8,), (11,)))


def greatest(table):
    return max(table.word, default=1)


class Toggling(unittest.TestCase):
    def look_at(self, table, letter):
        told = toggled(table, letter)
        self.assertEqual(told.rows, brute_sums.toggle(table.rows, letter))
        self.assertEqual(told.shape, table.shape)
        wanted = list(table.amounts + (0,) * (13 - len(table.amounts)))
        wanted[letter - 1], wanted[letter] = wanted[letter], wanted[letter - 1]
        self.assertEqual(list(told.amounts + (0,) * (13 - len(told.amounts))), wanted)
        self.assertEqual(toggled(told, letter), table)

    def test_small_tables(self):
        for table in SMALL:
            for letter in range(1, 6):
                self.look_at(table, letter)

    def test_tables_of_twelve_boxes(self):
        for table in GREAT:
            for letter in range(1, 12):
                self.look_at(table, letter)

    def test_nothing_to_toggle(self):
        self.assertEqual(toggled(Table(()), 11), Table(()))
        self.assertEqual(toggled(Table(((1,),)), 2), Table(((1,),)))

    def test_by_place_and_by_name(self):
        same_by_name(self, toggled, table=LATE, letter=2)


class Promoting(unittest.TestCase):
    def test_ones_taken_out_and_holes_slid_in(self):
        for table in SMALL:
            for most in range(greatest(table), 6):
                self.assertEqual(promoted(table, most).rows, brute_sums.promote(table.rows, most))
        for table in GREAT:
            self.assertEqual(promoted(table, greatest(table)).rows, brute_sums.promote(table.rows, greatest(table)))
            self.assertEqual(promoted(table, 12).rows, brute_sums.promote(table.rows, 12))

    def test_promoting_and_demoting_take_each_other_back(self):
        for table in SMALL + GREAT:
            for most in sorted({greatest(table), 12}):
                self.assertEqual(demoted(promoted(table, most), most), table)
                self.assertEqual(promoted(demoted(table, most), most), table)

    def test_one_letter_stays(self):
        for action in (promoted, demoted, evacuated):
            self.assertEqual(action(Table(((1, 1),)), 1), Table(((1, 1),)))
            self.assertEqual(action(Table(()), 12), Table(()))

    def test_by_place_and_by_name(self):
        for action in (promoted, demoted, evacuated, period):
            same_by_name(self, action, table=Table(((1, 1, 3), (2,))), most=4)
        same_by_name(self, promoted_often, table=Table(((1, 1, 3), (2,))), most=4, times=7)


class Evacuating(unittest.TestCase):
    def test_the_table_of_the_turned_word(self):
        for table in SMALL + GREAT:
            for most in sorted({greatest(table), 12}):
                turned = tuple(most + 1 - letter for letter in reversed(table.word))
                self.assertEqual(evacuated(table, most).rows, brute.table_of(turned))

    def test_twice_is_nothing(self):
        for table in SMALL + GREAT:
            self.assertEqual(evacuated(evacuated(table, greatest(table)), greatest(table)), table)


class Periods(unittest.TestCase):
    def test_the_least_number_of_promotions(self):
        for table in SMALL:
            for most in (greatest(table), 5):
                rows, steps = brute_sums.promote(table.rows, most), 1
                while rows != table.rows:
                    rows, steps = brute_sums.promote(rows, most), steps + 1
                self.assertEqual(period(table, most), steps)

    def test_promoted_often(self):
        for table in SMALL[::7] + [LATE]:
            now = table
            for times in range(12):
                self.assertEqual(promoted_often(table, 10, times), now)
                now = promoted(now, 10)

    def test_0_and_1_and_2000_times(self):
        for table in GREAT[:8] + [LATE, TOO_LATE]:
            most = greatest(table)
            now = table
            for _ in range(2000):
                now = promoted(now, most)
            self.assertEqual(promoted_often(table, most, 0), table)
            self.assertEqual(promoted_often(table, most, 1), promoted(table, most))
            self.assertEqual(promoted_often(table, most, 2000), now)
            self.assertEqual(promoted_often(table, most, 1999), demoted(now, most))

    def test_2001_times_are_too_many(self):
        error = raised(promoted_often, LATE, 10, 2001)
        self.assertEqual([error.__class__, error.given], [InvalidNumber, 2001])

    def test_rows_of_one_length(self):
        for shape in RECTANGLES:
            for rows in brute.standard_tables(shape):
                self.assertEqual(sum(shape) % period(Table(rows), sum(shape)), 0)
                self.assertEqual(promoted_often(Table(rows), sum(shape), sum(shape)), Table(rows))

    def test_standard_tables(self):
        for table in STANDARD:
            size = max(1, len(table.word))
            self.assertEqual(promoted_often(table, size, period(table, size)), table)

    def test_2000_and_more(self):
        self.assertEqual(period(LATE, 10), 2000)
        for table, most in ((TOO_LATE, 11), (Table(((1, 3, 4, 9), (2, 7, 10, 11), (4, 9, 12), (5,))), 12)):
            error = raised(period, table, most)
            self.assertEqual([error.__class__, error.limit], [TooMany, 2000])

    def test_periods_of_long_tables(self):
        for word in LONG:
            table = Table(brute.table_of(word))
            steps = raised(period, table, 12) or period(table, 12)
            if isinstance(steps, int):
                self.assertEqual(promoted_often(table, 12, steps), table)


class Wrong(unittest.TestCase):
    def test_tables_and_letters(self):
        table = ("table", Table(((1, 1, 3), (2,))), [(NotATable, NO_TABLES)])
        look_for_errors(self, toggled, table, ("letter", 2, [(InvalidLetter, numbers(1, 11))]))
        most = ("most", 3, [(InvalidNumber, numbers(3, 12) + [1, 0, -HUGE])])
        for action in (promoted, demoted, evacuated, period):
            look_for_errors(self, action, table, most)
        look_for_errors(self, promoted_often, table, most, ("times", 5, [(InvalidNumber, numbers(0, 2000))]))

    def test_the_period_is_looked_at_last(self):
        self.assertIs(raised(period, TOO_LATE.rows, 11).__class__, NotATable)
        self.assertIs(raised(period, TOO_LATE, 10).__class__, InvalidNumber)

    def test_the_empty_table(self):
        look_for_errors(
            self, promoted, ("table", Table(()), [(NotATable, NO_TABLES)]), ("most", 1, [(InvalidNumber, numbers(1, 12))]))


if __name__ == "__main__":
    unittest.main()
