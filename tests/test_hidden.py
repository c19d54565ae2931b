"""Hidden words: point 17, and wordshapes.hidden."""

import unittest
from random import Random

from tests import brute, brute_more
from tests.samples import LONG, MIDDLE, SHORT, scattered
from tests.wrong import HIDDEN, NO_TABLES, WORDS, look_for_errors, raised, same_by_name, shapes
from wordshapes.errors import InvalidHidden, InvalidShape, InvalidWord, NotATable, NotStandard, TooMany
from wordshapes.hidden import (
    alike_fillings, fillings_of, fillings_with, letters_for, nearest, seen_shapes, seen_tables, sure_boxes, sure_descents,
)
from wordshapes.pairs import pair_of
from wordshapes.tables import Table

ALL = tuple(range(1, 13))
FEW = [
    (), (1,), ((1, 2),), (ALL,), (2, (1, 3), 1), ((1, 2), (1, 2), (1, 2)), ((1, 2, 3), 2, (1, 2, 3)), (3, 1, 2), (12, (11, 12), 12),
    ((1, 12), 6, (1, 12), 6), ((2, 3), 1, (1, 4), (2, 3), 1), (5, (4, 5, 6), (4, 5, 6), 5), ((1, 2),) * 7, (1, 1, (1, 2), 2, 2),
    (4, 3, (1, 2), 1), ((2, 4), (1, 3), (2, 4)), (3, 2, 1, (1, 2, 3), (1, 2, 3)), (1, 2, 3, 4, 5, 6, 7, 8, 9, 10, (11, 12), (1, 12)),
]
# 2000 fillings, 2001 cannot be; the next ones.
JUST = ((1, 2, 3, 4, 5), (1, 2, 3, 4, 5), (1, 2, 3, 4, 5), (1, 2, 3, 4), (1, 2), (1, 2))
OVER = [((1, 2),) * 11, (ALL, ALL, ALL, (1, 2)), JUST + ((3, 4),), (ALL,) * 12, ((1, 2, 3),) * 7, ((1, 12),) * 12]


def drawn(many, seed):
    """Hidden words with few fillings."""
    dice, found = Random(seed), []
    while len(found) < many:
        word = []
        for _ in range(dice.randint(3, 9)):
            long = dice.choice([1, 1, 1, 2, 2, 3])
            letters = tuple(sorted(dice.sample(range(1, 6), long)))
            word.append(letters if long > 1 else letters[0])
        if len(brute_more.fillings(word)) <= 200:
            found.append(tuple(word))
    return found


SOME = FEW + drawn(25, 5)


class Fillings(unittest.TestCase):
    def test_fillings(self):
        for hidden in SOME:
            self.assertEqual(fillings_of(hidden), tuple(brute_more.fillings(hidden)))

    def test_words_without_hidden_letters(self):
        for word in SHORT[::9] + MIDDLE + LONG:
            table = Table.of(word)
            boxes = [(row, column, letter) for (row, column), letter in sorted(brute.letters_of(table.rows).items())]
            self.assertEqual([fillings_of(word), seen_shapes(word), seen_tables(word)], [(word,), ((table.shape, 1),), (table,)])
            self.assertEqual(sure_boxes(word), tuple(boxes))
            self.assertEqual(sure_descents(word), tuple(k for k in range(len(word) - 1) if word[k] > word[k + 1]))
            self.assertEqual(letters_for(word, table.shape), tuple((letter,) for letter in word))
            self.assertEqual(fillings_with(word, pair_of(word)[1]), (word,))
            self.assertEqual(alike_fillings(word, table.word), (word,))

    def test_2000_fillings(self):
        told = fillings_of(JUST)
        self.assertEqual([len(told), told], [2000, tuple(sorted(set(told)))])
        self.assertEqual(sum(many for _, many in seen_shapes(JUST)), 2000)
        self.assertEqual(len(seen_tables(JUST)), len({brute.table_of(word) for word in told}))

    def test_more_fillings(self):
        standard = Table(((1, 2),))
        for hidden in OVER:
            for action in (fillings_of, seen_shapes, seen_tables, sure_boxes, sure_descents):
                self.look_for_too_many(raised(action, hidden))
            self.look_for_too_many(raised(letters_for, hidden, (1,)))
            self.look_for_too_many(raised(fillings_with, hidden, standard))
            self.look_for_too_many(raised(alike_fillings, hidden, (1,)))

    def look_for_too_many(self, error):
        self.assertEqual([error.__class__, error.limit], [TooMany, 2000])

    def test_by_place_and_by_name(self):
        for action in (fillings_of, seen_shapes, seen_tables, sure_boxes, sure_descents):
            same_by_name(self, action, hidden=(2, (1, 3), 1))


class Seen(unittest.TestCase):
    def test_seen_shapes_and_tables(self):
        for hidden in SOME:
            tables = [brute.table_of(word) for word in brute_more.fillings(hidden)]
            found = [tuple(map(len, rows)) for rows in tables]
            self.assertEqual(seen_shapes(hidden), tuple(sorted((shape, found.count(shape)) for shape in set(found))))
            self.assertEqual([table.rows for table in seen_tables(hidden)], sorted(set(tables)))
            self.assertIsInstance(seen_tables(hidden), tuple)

    def test_sure_boxes(self):
        for hidden in SOME:
            boxes = [set(brute.letters_of(brute.table_of(word)).items()) for word in brute_more.fillings(hidden)]
            wanted = sorted((row, column, letter) for (row, column), letter in set.intersection(*boxes))
            self.assertEqual(sure_boxes(hidden), tuple(wanted))

    def test_sure_descents(self):
        for hidden in SOME:
            falls = [{k for k in range(len(word) - 1) if word[k] > word[k + 1]} for word in brute_more.fillings(hidden)]
            self.assertEqual(sure_descents(hidden), tuple(sorted(set.intersection(*falls))))

    def test_the_empty_word(self):
        self.assertEqual([fillings_of(()), seen_shapes(()), seen_tables(())], [((),), (((), 1),), (Table(()),)])
        self.assertEqual([sure_boxes(()), sure_descents(()), letters_for((), ()), letters_for((), (1,))], [(), (), (), None])
        self.assertEqual([fillings_with((), Table(())), alike_fillings((), ()), alike_fillings((), (1,))], [((),), ((),), ()])


class Chosen(unittest.TestCase):
    def test_letters_for(self):
        for hidden in SOME:
            fillings = brute_more.fillings(hidden)
            for shape in brute.parted(len(hidden)) if len(hidden) < 8 else [Table.of(word).shape for word in fillings[:20]]:
                fitting = [word for word in fillings if tuple(map(len, brute.table_of(word))) == shape]
                wanted = tuple(tuple(sorted(set(letters))) for letters in zip(*fitting)) if fitting else None
                self.assertEqual(letters_for(hidden, shape), wanted)

    def test_a_shape_that_no_filling_has(self):
        for hidden, shape in [((1, (2, 3)), (1, 1)), ((2, (1, 3), 1), (3,)), ((1,), ()), ((1,), (2,)), ((), (12,)), (((1, 2),), (1, 1))]:
            self.assertIsNone(letters_for(hidden, shape))

    def test_fillings_with_a_second_table(self):
        for hidden in SOME:
            fillings = brute_more.fillings(hidden)
            found = {}
            for word in fillings:
                found.setdefault(pair_of(word)[1].rows, []).append(word)
            for rows, words in found.items():
                self.assertEqual(fillings_with(hidden, Table(rows)), tuple(words))
            for rows in [(), ((1,),), ((1, 2), (3,)), ((1, 3), (2,)), ((1, 2, 3, 4),)]:
                self.assertEqual(fillings_with(hidden, Table(rows)), tuple(found.get(rows, [])))

    def test_alike_fillings(self):
        for hidden in SOME:
            fillings = brute_more.fillings(hidden)
            for word in fillings[:5] + [word[::-1] for word in fillings[:3]] + [(), (1,), (2, 1, 2)]:
                wanted = [filling for filling in fillings if brute.table_of(filling) == brute.table_of(word)]
                self.assertEqual(alike_fillings(hidden, word), tuple(wanted))

    def test_not_standard_ahead_of_too_many(self):
        for hidden in OVER + SOME:
            for rows in [((1, 1),), ((2,),), ((1, 2), (2,)), ((1, 3),)]:
                self.assertIs(raised(fillings_with, hidden, Table(rows)).__class__, NotStandard)

    def test_by_place_and_by_name(self):
        hidden = (2, (1, 3), 1)
        same_by_name(self, letters_for, hidden=hidden, shape=(2, 1))
        same_by_name(self, fillings_with, hidden=hidden, second=Table(((1, 2), (3,))))
        same_by_name(self, alike_fillings, hidden=hidden, word=(1, 2, 1))


class Nearest(unittest.TestCase):
    def look_at(self, word, table):
        others = sorted(brute.word_class(table.word))
        unlike = [len([k for k in range(len(word)) if word[k] != other[k]]) for other in others]
        least = min(unlike)
        self.assertEqual(nearest(word, table), (least, others[unlike.index(least)]))

    def test_all_words_of_the_class(self):
        for word in SHORT[::4]:
            for other in [(), (1,), (3, 1), (2, 2), (2, 1, 3), (1, 1, 1), (3, 1, 2, 1), (2, 1, 3, 1, 2), (1, 2, 3, 1, 2)]:
                if len(other) == len(word):
                    self.look_at(word, Table.of(other))

    def test_words_of_nine_letters(self):
        for word, other in zip(scattered(8, 9, 4, 21), scattered(8, 9, 4, 22)):
            self.look_at(word, Table.of(other))
            self.assertEqual(nearest(word, Table.of(word)), (0, word))

    def test_unlike_lengths(self):
        self.assertIsNone(nearest((1,), Table(())))
        self.assertIsNone(nearest((), Table(((1,),))))
        self.assertIsNone(nearest((1,) * 9, Table(((1,) * 12,))))
        self.assertEqual(nearest((), Table(())), (0, ()))

    def test_ten_letters(self):
        for word in LONG + [(1,) * 10]:
            for table in (Table.of(word), Table(()), Table(((1, 2),))):
                error = raised(nearest, word, table)
                self.assertEqual([error.__class__, error.limit], [TooMany, 9])

    def test_by_place_and_by_name(self):
        same_by_name(self, nearest, word=(2, 3, 1), table=Table(((1, 1), (2,))))


class Wrong(unittest.TestCase):
    def test_hidden_words(self):
        hidden = ("hidden", (2, (1, 3), 1), [(InvalidHidden, HIDDEN)])
        for action in (fillings_of, seen_shapes, seen_tables, sure_boxes, sure_descents):
            look_for_errors(self, action, hidden)
        look_for_errors(self, letters_for, hidden, ("shape", (2, 1), [(InvalidShape, shapes(12))]))
        look_for_errors(self, fillings_with, hidden, ("second", Table(((1, 2), (3,))), [(NotATable, NO_TABLES)]))
        look_for_errors(self, alike_fillings, hidden, ("word", (1, 2, 1), [(InvalidWord, WORDS)]))

    def test_nearest(self):
        look_for_errors(
            self, nearest, ("word", (2, 3, 1), [(InvalidWord, WORDS)]), ("table", Table(((1, 1), (2,))), [(NotATable, NO_TABLES)]))

    def test_too_many_comes_last(self):
        self.assertIs(raised(letters_for, OVER[0], (1, 2)).__class__, InvalidShape)
        self.assertIs(raised(fillings_with, OVER[0], None).__class__, NotATable)
        self.assertIs(raised(alike_fillings, OVER[0], (0,)).__class__, InvalidWord)
        self.assertIs(raised(nearest, (1,) * 10, None).__class__, NotATable)


if __name__ == "__main__":
    unittest.main()
