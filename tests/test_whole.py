"""Points 1 and 2 over the whole program: what is told in several ways is told alike."""

import unittest
from itertools import product
from random import Random

from tests import brute, brute_claims
from tests.samples import LONG, MIDDLE, orders, scattered
from wordshapes.ballots import ballot_count, ballot_fillings, is_ballot
from wordshapes.benches import Bench
from wordshapes.books import Book
from wordshapes.certificates import (
    certify_alike, certify_falling, certify_grows, certify_heavier, certify_joins, certify_rising, certify_slides, certify_web,
)
from wordshapes.checker import accepts
from wordshapes.console import Console
from wordshapes.counts import letter_count, margin_count, own_inverse_count, table_count, tables_with, zero_one_count
from wordshapes.growths import growth_at, growth_count, growth_descents, growth_index, growth_of, table_of
from wordshapes.hidden import fillings_of, fillings_with, nearest, seen_shapes
from wordshapes.hives import hive_count, hive_of, hives, skew_of
from wordshapes.joins import join_count, joined, pairs_for, skew_terms
from wordshapes.logs import played
from wordshapes.lots import cover, falling_lots, falling_total, rising_cover, rising_lots, rising_total
from wordshapes.marks import charge, cocharge, mark_numbers, settled, standard_marks
from wordshapes.mixtures import Mixture
from wordshapes.moves import alike, chain, class_count, class_of, moved
from wordshapes.pairs import array_of, array_of_matrix, exchanged, matrix_of, pair_of, pair_of_array, word_of
from wordshapes.patterns import pattern_count, pattern_of, pattern_toggled, patterns, table_of_pattern
from wordshapes.ribbons import character, cycle_weight
from wordshapes.shapes import corner_rows, flipped, heavier, holds, hook, shapes_of, steps_down, with_columns, with_strips
from wordshapes.skews import Skew
from wordshapes.slides import beside, rectified, slid_in, slid_out, staircase
from wordshapes.sorting import order_by, order_mixture, reduced_count, sorted_pair, sorted_row
from wordshapes.squares import order_of, sides, square_of
from wordshapes.strings import highest, is_highest, lowered, mirrored, one_web, raised, way_up, web_of
from wordshapes.tables import Table
from wordshapes.turns import demoted, evacuated, promoted, toggled
from wordshapes.words import amounts, descents, inverse, standing, turned, word_in, word_text

DRAWN = scattered(12, 5, 3, 61) + scattered(10, 8, 5, 62) + scattered(12, 12, 4, 63) + scattered(8, 12, 12, 64) + MIDDLE[::5] + LONG[::3] + [()]
ORDERS = orders(12, 7, 65) + orders(6, 12, 66) + [(), (1,)]
NAMED = ("shapes", "monomials", "rows", "columns", "powers")


def greatest(word):
    return max(word, default=1)


def drawn_skews(many, seed):
    """Skews that come of drawn tables by slides out at drawn rows."""
    dice, found = Random(seed), []
    for word in scattered(many, 7, 4, seed):
        skew = Skew((), Table.of(word).rows)
        for _ in range(dice.randint(0, 9)):
            skew = slid_out(skew, dice.randint(0, 1) * len(skew.outer))
        found.append(skew)
    return found


class Tables(unittest.TestCase):
    def test_tables_by_rows_by_columns_by_slides_and_by_moves(self):
        for word in DRAWN:
            by_rows = by_columns = Table(())
            for letter in word:
                by_rows = by_rows.put(letter)
            for letter in reversed(word):
                by_columns = by_columns.put_by_columns(letter)
            table = Table.of(word)
            self.assertEqual([by_rows, by_columns, rectified(staircase(word)), Table.of(table.word)], [table] * 4)
            now = word
            for place in chain(word, table.word):
                now = moved(now, place)
            self.assertEqual([now, Table(table.rows), pair_of(word)[0]], [table.word, table, table])

    def test_products_in_four_ways(self):
        for word, other in zip(scattered(15, 6, 4, 71), scattered(15, 6, 4, 72)):
            first, second = Table.of(word), Table.of(other)
            told, by_letters = first.times(second), first
            for letter in other:
                by_letters = by_letters.put(letter)
            self.assertEqual([Table.of(word + other), rectified(beside(first, second)), by_letters], [told] * 3)
            self.assertIn((first, second), pairs_for(told, first.shape, second.shape))

    def test_letters_taken_out_are_put_back(self):
        for word in DRAWN:
            table = Table.of(word)
            for row in corner_rows(table.shape):
                less, letter = table.taken(row)
                self.assertEqual(less.put(letter), table)

    def test_parts_are_tables_of_parts(self):
        for word in DRAWN:
            for most in range(13):
                part = tuple(letter for letter in word if letter <= most)
                self.assertEqual(Table.of(word).part(most), Table.of(part))

    def test_slides_in_any_order(self):
        for skew in drawn_skews(20, 73):
            dice, now = Random(1), skew
            while now.inner:
                now = slid_in(now, dice.choice(corner_rows(now.inner)))
            self.assertEqual([Table(now.rows), Table.of(skew.word)], [rectified(skew)] * 2)


class Pairs(unittest.TestCase):
    def test_second_tables_in_five_ways(self):
        for word in DRAWN:
            first, second = pair_of(word)
            order = standing(word)
            self.assertEqual([pair_of(order)[1], pair_of(inverse(order))[0], pair_of(highest(word))[1]], [second] * 3)
            self.assertEqual(pair_of_array(tuple((k, letter) for k, letter in enumerate(word, start=1))), (first, second))
            self.assertEqual(sides(square_of(word))[1], sides(square_of(inverse(order)))[0])
            self.assertEqual(word_of(first, second), word)
            self.assertEqual([descents(word), descents(order)], [tuple(k - 1 for k in growth_descents(growth_of(second)))] * 2)

    def test_words_and_pairs_one_by_one(self):
        told = {(pair_of(word)[0].rows, pair_of(word)[1].rows) for word in product((1, 2, 3), repeat=4)}
        self.assertEqual(len(told), 81)
        counts = [letter_count(shape, 3) * growth_count(shape) for shape in shapes_of(4)]
        self.assertEqual(sum(counts), 81)

    def test_arrays_and_matrices(self):
        dice = Random(74)
        for _ in range(20):
            matrix = tuple(tuple(dice.choice((0, 0, 1, 2)) if dice.random() < 0.5 else 0 for _ in range(4)) for _ in range(3))
            if sum(map(sum, matrix)) <= 12:
                array = array_of_matrix(matrix)
                first, second = pair_of_array(array)
                self.assertEqual([matrix_of(array, 3, 4), array_of(first, second)], [matrix, array])
                self.assertEqual(pair_of_array(exchanged(array)), (second, first))
                self.assertEqual(matrix_of(exchanged(array), 4, 3), tuple(zip(*matrix)))

    def test_matrices_are_counted_by_pairs_of_tables(self):
        for rows, columns in [((2, 1, 1), (1, 3)), ((2, 2, 2), (1, 2, 3)), ((4, 3), (2, 2, 2, 1)), ((1, 1, 1, 1), (2, 0, 2)), ((), ()), ((3,), (2,))]:
            shapes = shapes_of(sum(rows))
            self.assertEqual(margin_count(rows, columns), sum(table_count(shape, rows) * table_count(shape, columns) for shape in shapes))
            self.assertEqual(zero_one_count(rows, columns), sum(table_count(shape, rows) * table_count(flipped(shape), columns) for shape in shapes))

    def test_growths_and_standard_tables(self):
        for word in DRAWN:
            second = pair_of(word)[1]
            growth = growth_of(second)
            self.assertEqual([table_of(growth), growth_at(second.shape, growth_index(growth))], [second, growth])

    def test_squares_and_orders(self):
        for order in ORDERS:
            self.assertEqual(order_of(square_of(order)), order)
            shapes, others = sides(square_of(order))
            first, second = pair_of(order)
            self.assertEqual([shapes, others], [tuple(table.part(k).shape for k in range(len(order) + 1)) for table in (first, second)])


class Totals(unittest.TestCase):
    def test_totals_in_five_ways(self):
        for word in DRAWN:
            shape = Table.of(word).shape
            columns = flipped(shape)
            for many in (1, 2, 3, 12):
                told = [
                    rising_total(word, many), sum(shape[:many]), sum(map(len, rising_lots(word, many))), certify_rising(word, many)[0][3],
                    sum(min(len(lot), many) for lot in cover(word, many)), falling_total(tuple(13 - letter for letter in standing(word)), many),
                ]
                self.assertEqual(told, told[:1] * 6)
                told = [
                    falling_total(word, many), sum(columns[:many]), sum(map(len, falling_lots(word, many))), certify_falling(word, many)[0][3],
                    sum(min(len(lot), many) for lot in rising_cover(word, many)), rising_total(standing(word)[::-1], many),
                ]
                self.assertEqual(told, told[:1] * 6)

    def test_alike_words_have_one_total(self):
        for word in scattered(5, 7, 4, 75):
            for many in (1, 2):
                self.assertEqual({rising_total(other, many) for other in class_of(word)}, {rising_total(word, many)})


class Joins(unittest.TestCase):
    def test_join_counts_in_seven_ways(self):
        dice = Random(76)
        for _ in range(40):
            first, second = dice.choice(shapes_of(dice.randint(0, 4))), dice.choice(shapes_of(dice.randint(0, 4)))
            product_of_both = Mixture(((first, (1, 1)),)) * Mixture(((second, (1, 1)),))
            self.assertEqual(tuple((shape, (many, 1)) for shape, many in joined(first, second)), product_of_both.terms)
            for third in shapes_of(sum(first) + sum(second)):
                self.look_at_count(first, second, third, product_of_both)

    def look_at_count(self, first, second, third, product_of_both):
        many = join_count(first, second, third)
        told = [
            brute_claims.join_count(first, second, third), dict(joined(second, first)).get(third, 0), hive_count(first, second, third) if self.is_low(third) else many,
            join_count(flipped(first), flipped(second), flipped(third)), certify_joins(first, second, third)[0][4],
            len(pairs_for(tables_with(third, third)[0], first, second)), product_of_both.held(Mixture(((third, (1, 1)),)))[0],
        ]
        if holds(third, first):
            told += [ballot_count(third, first, second), dict(skew_terms(third, first)).get(second, 0), len(ballot_fillings(third, first, second))]
        self.assertEqual(told, [many] * len(told), (first, second, third))

    def is_low(self, third):
        return len(third) <= 4

    def test_fillings_and_hives_one_by_one(self):
        for first, second, third in [((2, 1), (2, 1), (3, 2, 1)), ((3, 2, 1), (3, 2, 1), (5, 4, 2, 1)), ((4, 2), (3, 2, 1), (6, 4, 2)), ((), (), ())]:
            skews = ballot_fillings(third, first, second)
            self.assertEqual(sorted(map(hive_of, skews)), list(hives(first, second, third)))
            for skew in skews:
                self.assertEqual(skew_of(hive_of(skew)), skew)
                self.assertEqual(rectified(skew).rows, brute_claims.highest_rows(second))

    def test_skews_are_sums_of_shapes(self):
        for skew in drawn_skews(12, 77):
            if len(skew.inner) <= 3 and sum(skew.outer) <= 12:
                many = dict(skew_terms(skew.outer, skew.inner)).get(Table.of(skew.word).shape, 0)
                self.assertGreater(many, 0)


class Writing(unittest.TestCase):
    def drawn(self, seed):
        dice = Random(seed)
        shapes = dice.sample([shape for size in range(5) for shape in shapes_of(size)], 4)
        return Mixture(tuple((shape, dice.choice([(1, 1), (-2, 1), (3, 2), (-1, 6)])) for shape in sorted(shapes)))

    def test_what_is_written_in_one_way_is_the_same_in_all(self):
        for seed in range(8):
            mixture, other = self.drawn(seed), self.drawn(seed + 50)
            for basis in NAMED:
                again = Mixture.of(basis, mixture.written(basis))
                self.assertEqual(again, mixture)
                self.assertEqual((again * other).terms, (other * mixture).terms)
                self.assertEqual((again + other - mixture), other)
            self.assertEqual(mixture.flip().flip(), mixture)
            self.assertEqual(mixture.held(other), mixture.flip().held(other.flip()))
            self.assertEqual(bool(mixture - mixture), False)

    def test_counts_of_tables_are_numbers_of_monomials(self):
        for size in range(6):
            for shape in shapes_of(size):
                monomials = dict(Mixture(((shape, (1, 1)),)).written("monomials"))
                for other in shapes_of(size):
                    told = [table_count(shape, other), len(tables_with(shape, other)), sum(mark_numbers(shape, other))]
                    self.assertEqual(told, [monomials.get(other, (0, 1))[0]] * 3)
                    self.assertEqual(told[0] > 0, heavier(shape, other))

    def test_counts_of_letters(self):
        for size in range(5):
            for shape in shapes_of(size):
                for most in range(1, 5):
                    told = [
                        letter_count(shape, most), pattern_count(shape, most), len(patterns(shape, most)), Mixture(((shape, (1, 1)),)).value((1,) * most)[0],
                        len(brute.tables(shape, most)),
                    ]
                    self.assertEqual(told, told[:1] * 5)

    def test_strips_are_products_with_rows_and_columns(self):
        for shape in shapes_of(5):
            for size in range(4):
                one = Mixture(((shape, (1, 1)),))
                row, column = Mixture((((size,) if size else (), (1, 1)),)), Mixture((((1,) * size, (1, 1)),))
                self.assertEqual([told for told, _ in (one * row).terms], sorted(with_strips(shape, size)))
                self.assertEqual([told for told, _ in (one * column).terms], sorted(with_columns(shape, size)))

    def test_characters_are_what_powers_are_written_with(self):
        for cycle in shapes_of(5):
            for shape, number in Mixture.of("powers", ((cycle, (1, 1)),)).terms:
                self.assertEqual(number, (character(shape, cycle), 1))
            self.assertEqual(sum(character(shape, cycle) ** 2 for shape in shapes_of(5)), cycle_weight(cycle))
        for shape in shapes_of(6):
            self.assertEqual(character(shape, (1,) * 6), growth_count(shape))

    def test_standard_tables_in_six_ways(self):
        for size in range(9):
            total = 0
            for shape in shapes_of(size):
                word = Table(tuple((row + 1,) * wide for row, wide in enumerate(shape))).word
                hooks = 1
                for row, column in brute.boxes(shape):
                    hooks *= hook(shape, row, column)
                told = [
                    growth_count(shape), class_count(word), sum(standard_marks(shape)), table_count(shape, (1,) * size), brute.standard_count(shape),
                    self.factorial(size) // hooks, int(Console().say(f"count {word_text(shape)}")),
                ]
                self.assertEqual(told, told[:1] * 7)
                total += told[0]
            self.assertEqual(total, own_inverse_count(size))

    def factorial(self, size):
        return size * self.factorial(size - 1) if size else 1


class Turned(unittest.TestCase):
    def test_toggling_tables_patterns_and_webs(self):
        for word in DRAWN:
            table, most = Table.of(word), greatest(word)
            for k in range(1, most):
                told = toggled(table, k)
                self.assertEqual(table_of_pattern(pattern_toggled(pattern_of(table, most), k)), told)
                self.assertEqual(toggled(told, k), table)
                self.assertEqual(sorted(told.amounts[:k - 1]), sorted(table.amounts[:k - 1]))

    def test_evacuated_is_turned(self):
        for word in DRAWN:
            most = greatest(word)
            told = evacuated(Table.of(word), most)
            self.assertEqual([Table.of(turned(word, most)), evacuated(told, most)], [told, Table.of(word)])
            self.assertEqual(demoted(promoted(Table.of(word), most), most), Table.of(word))
            second = pair_of(word)[1]
            self.assertEqual(pair_of(turned(word, most))[1], evacuated(second, max(1, len(word))))

    def test_webs_are_the_tables_of_a_shape(self):
        for word in scattered(6, 5, 3, 78):
            web = web_of(word, 4)
            shape, second = Table.of(word).shape, pair_of(word)[1]
            self.assertEqual([len(web), len({Table.of(other).rows for other in web})], [letter_count(shape, 4)] * 2)
            self.assertEqual([{pair_of(other)[1].rows for other in web}, sum(is_highest(other) for other in web)], [{second.rows}, 1])
            self.assertEqual([one_web(word, other) for other in (web[0], web[-1])], [True, True])

    def test_highest_words_are_ballot_words(self):
        for word in DRAWN:
            top = highest(word)
            self.assertTrue(is_highest(top) and is_ballot(top) and amounts(top) == Table.of(word).shape)
            now = word
            for letter in way_up(word):
                now = raised(now, letter)
            self.assertEqual(now, top)
            for letter in reversed(way_up(word)):
                now = lowered(now, letter)
            self.assertEqual(now, word)

    def test_charges(self):
        for word in DRAWN:
            self.assertEqual(charge(word), charge(Table.of(word).word))
            self.assertEqual([charge(settled(word)), cocharge(settled(word))], [charge(word), cocharge(word)])
            self.assertEqual([charge(mirrored(word, 3)), cocharge(mirrored(word, 3))], [charge(word), cocharge(word)])
            self.assertTrue(heavier(Table.of(word).shape, amounts(settled(word))))


class Sorted(unittest.TestCase):
    def test_reduced_rows_by_mixtures(self):
        for order in [(3, 2, 1), (2, 1, 4, 3), (4, 1, 3, 2), (3, 4, 1, 2), (2, 4, 1, 5, 3), (2, 1, 4, 3, 6, 5)]:
            terms = order_mixture(order).terms
            self.assertEqual(sum(many * growth_count(shape) for shape, (many, _) in terms), reduced_count(order))
            self.assertEqual(order_mixture(inverse(order)), order_mixture(order).flip())

    def test_sorted_tables_and_tables(self):
        """Reduced rows without braids of three letters are put sorted just as they are put."""
        for row in [(1, 2, 3), (3, 1, 2), (2, 4, 1, 3), (5, 3, 1), (1, 3, 5, 2, 4)]:
            self.assertEqual(sorted_pair(row), pair_of(row))
            self.assertEqual(sorted_row(*sorted_pair(row)), row)
            self.assertEqual(reduced_count(order_by(row, 7)), sum(many * growth_count(shape) for shape, (many, _) in order_mixture(order_by(row, 7)).terms))


class Hidden(unittest.TestCase):
    def test_fillings_by_their_tables(self):
        hidden = ((1, 2, 3),) * 4
        self.assertEqual(fillings_of(hidden), tuple(product((1, 2, 3), repeat=4)))
        self.assertEqual(seen_shapes(hidden), tuple(
            (shape, letter_count(shape, 3) * growth_count(shape)) for shape in sorted(shapes_of(4)) if letter_count(shape, 3)))
        for shape in shapes_of(4):
            for rows in brute.standard_tables(shape):
                second = Table(rows)
                web = web_of(highest(word_of(Table(brute_claims.highest_rows(shape)), second)), 3) if len(shape) <= 3 else ()
                self.assertEqual(fillings_with(hidden, second), web)

    def test_nearest(self):
        for word in scattered(6, 6, 3, 79):
            for other in scattered(4, 6, 3, 80):
                many, found = nearest(word, Table.of(other))
                self.assertTrue(alike(found, other))
                self.assertEqual(many, sum(own != beside_it for own, beside_it in zip(word, found)))


class Live(unittest.TestCase):
    def test_benches_logs_and_books_show_what_was_done(self):
        dice = Random(81)
        for _ in range(5):
            bench, book = Bench(), Book()
            for _ in range(30):
                letter = dice.randint(1, 4)
                if len(bench.word) < 12:
                    bench.write(letter)
                bench.mirror_at(letter)
                book["w"] = bench.word
                self.assertEqual([book["w"], played(bench.log).word, word_of(bench.table, bench.second)], [bench.word] * 3)
                self.assertEqual([bench.table, bench.shape, bench.changes], [Table.of(bench.word), bench.table.shape, len(bench.log)])
            while bench.changes:
                bench.undo()
            while book.changes:
                book.undo()
            self.assertEqual([bench.word, bench.log, book.names], [(), (), ()])

    def test_after_each_change_all_claims_hold(self):
        dice, console = Random(82), Console()
        words = scattered(12, 3, 3, 83)
        for _ in range(300):
            line = dice.choice([
                "a = {}", "b = {}", "a alike b", "a web b", "a heavier b", "b shape 2.1", "a shape 1.1.1", "b rising 1 2", "a falling 1 2", "a highest", "undo",
            ]).format(word_text(dice.choice(words)))
            try:
                console.say(line)
            except (ArithmeticError, LookupError):
                continue
            self.look_at_claims(console.book)

    def look_at_claims(self, book):
        for claim in book.claims:
            found = [book[name] for name in claim[1:] if isinstance(name, str)]
            told = {
                "alike": lambda: certify_alike(*found), "web": lambda: certify_web(*found), "highest": lambda: is_ballot(*found) or None,
                "shape": lambda: certify_grows(*found)[0][2] == claim[2] or None,
                "heavier": lambda: steps_down(Table.of(found[0]).shape, Table.of(found[1]).shape),
                "rising": lambda: certify_rising(found[0], claim[2])[0][3] >= claim[3] or None,
                "falling": lambda: certify_falling(found[0], claim[2])[0][3] >= claim[3] or None,
            }[claim[0]]()
            self.assertIsNotNone(told, claim)


class Checked(unittest.TestCase):
    def test_papers_of_drawn_things(self):
        papers = [certify_slides(skew) for skew in drawn_skews(25, 84)]
        for word, other in zip(DRAWN, DRAWN[1:] + DRAWN[:1]):
            papers += [certify_grows(word), certify_rising(word, 2), certify_falling(word, 2), certify_alike(word, Table.of(word).word)]
            papers += [certify_web(word, highest(word)), certify_alike(word, other), certify_web(word, other)]
            shape, lower = Table.of(word).shape, Table.of(other).shape
            papers += [certify_heavier(shape, lower)] if sum(shape) == sum(lower) else []
        for told in papers:
            if told is not None:
                self.assertIs(accepts(*told), True)
                self.assertTrue(brute_claims.judged(*told))

    def test_texts_lead_back(self):
        for word in DRAWN:
            self.assertEqual(word_in(word_text(word)), word)
            console = Console()
            console.say(f"w = {word_text(word)}")
            self.assertEqual([console.say("w word"), console.say("w table"), console.book["w"]], [word_text(word), Table.of(word).text, word])


if __name__ == "__main__":
    unittest.main()
