"""Mixtures: points 25 and 26, and wordshapes.mixtures."""

import unittest
from fractions import Fraction
from itertools import product
from random import Random

from tests import brute, brute_sums
from tests.wrong import HUGE, NO_FRACTIONS, NO_NUMBERS, NO_TUPLES, SKEW, TABLE, TERMS, Stranger, look_at, look_for_errors
from tests.wrong import raised, same_by_name
from wordshapes.errors import InvalidBasis, InvalidNumber, InvalidTerms, NotAMixture, TooMany
from wordshapes.mixtures import Mixture
from wordshapes.tables import Table

BASES = ("shapes", "monomials", "rows", "columns", "powers")
SMALL = [shape for size in range(6) for shape in brute.parted(size)]
ALL = [shape for size in range(9) for shape in brute.parted(size)]
NUMBERS = [
    (), (0,), (1,), (-3,), (1000,), (2, 5), (-1000, 1000), (0, 7), (1, 1, 1), (2, -3, 5), (0, 0, 0), (1, 2, 3, 4), (-1, 1, -1, 1),
    (1000, -999, 998, -1000), (0, 0, 1, -1),
]
NO_MIXTURES = NO_TUPLES + [(), 1, (1, 1), (((1,), (1, 1)),), Mixture, Table(()), TABLE, SKEW]
NO_BASES = NO_TUPLES + [
    "shape", "Shapes", "SHAPES", "shapes ", " shapes", "", "power", "monomial", "row", "column", "s", "shapes\n", ("shapes",), ["rows"],
    b"rows", ("rows", "columns"), "rowscolumns", (), ((("rows",),),),
]


def one(shape):
    """A shape as a mixture."""
    return Mixture(((shape, (1, 1)),))


def some(seed, sizes=range(9), many=6):
    """A mixture of shapes of these sizes, the same one each time."""
    dice = Random(seed)
    shapes = [shape for size in sizes for shape in brute.parted(size)]
    terms = []
    for shape in sorted(dice.sample(shapes, min(many, len(shapes)))):
        fraction = Fraction(dice.choice([-7, -3, -2, -1, 1, 2, 5, 9]), dice.randint(1, 6))
        terms.append((shape, (fraction.numerator, fraction.denominator)))
    return Mixture(tuple(terms))


def polynomial_of(mixture, many):
    return brute_sums.polynomial("shapes", mixture.terms, many)


class Bases(unittest.TestCase):
    def test_what_a_shape_stands_for(self):
        for basis in BASES:
            for shape in SMALL:
                made = Mixture.of(basis, ((shape, (1, 1)),))
                many = max(1, sum(shape))
                self.assertEqual(polynomial_of(made, many), brute_sums.basis_polynomial(basis, shape, many))

    def test_the_empty_shape_stands_for_1(self):
        for basis in BASES:
            self.assertEqual(Mixture.of(basis, (((), (3, 2)),)), Mixture((((), (3, 2)),)))
            self.assertEqual(Mixture((((), (3, 2)),)).written(basis), (((), (3, 2)),))

    def test_sums(self):
        for seed in range(20):
            mixture = some(seed, range(5), 5)
            for basis in BASES:
                made = Mixture.of(basis, mixture.terms)
                self.assertEqual(polynomial_of(made, 4), brute_sums.polynomial(basis, mixture.terms, 4))
                self.assertEqual(brute_sums.polynomial(basis, mixture.written(basis), 4), polynomial_of(mixture, 4))

    def test_written_and_made_again(self):
        for basis in BASES:
            for mixture in [one(shape) for shape in ALL] + [some(seed) for seed in range(20)] + [some(1, range(9), 67)]:
                terms = mixture.written(basis)
                shapes = [shape for shape, _ in terms]
                self.assertEqual(shapes, sorted(set(shapes)))
                self.assertIsNone(raised(Mixture, terms))
                self.assertEqual(Mixture.of(basis, terms), mixture)
                self.assertEqual(Mixture.of(basis, mixture.terms).written(basis), mixture.terms)

    def test_from_basis_to_basis(self):
        for seed in range(4):
            mixture = some(seed)
            for first, second in product(BASES, BASES):
                between = Mixture.of(first, mixture.written(first)).written(second)
                self.assertEqual(between, mixture.written(second))

    def test_values_of_what_is_written(self):
        for seed, numbers in product(range(6), NUMBERS):
            mixture = some(seed, range(6))
            if len(numbers) < 4:
                for basis in BASES:
                    told = brute_sums.polynomial(basis, mixture.written(basis), len(numbers))
                    self.assertEqual(brute_sums.value_of(told, numbers), mixture.value(numbers))

    def test_size_8(self):
        flat = Mixture.of("rows", (((8,), (1, 1)),))
        self.assertEqual([flat, Mixture.of("columns", (((8,), (1, 1)),))], [one((8,)), one((1,) * 8)])
        ones = Mixture.of("powers", (((1,) * 8, (1, 1)),))
        counts = tuple(sorted((shape, (brute.standard_count(shape), 1)) for shape in brute.parted(8)))
        self.assertEqual(ones.terms, counts)
        self.assertEqual(ones.written("rows"), (((1,) * 8, (1, 1)),))
        hooks = tuple(sorted(((8 - down,) + (1,) * down, ((-1) ** down, 1)) for down in range(8)))
        self.assertEqual(Mixture.of("powers", (((8,), (1, 1)),)).terms, hooks)
        self.assertEqual(one((8,)).written("monomials"), tuple(sorted((shape, (1, 1)) for shape in brute.parted(8))))
        self.assertEqual(one((1,) * 8).written("monomials"), (((1,) * 8, (1, 1)),))

    def test_by_place_and_by_name(self):
        terms = some(3).terms
        for basis in BASES:
            same_by_name(self, Mixture.of, basis=basis, terms=terms)
            same_by_name(self, some(3).written, basis=basis)


class Working(unittest.TestCase):
    def test_sums_and_differences(self):
        for seed in range(30):
            first, second = some(seed, range(5)), some(seed + 100, range(5))
            for made, factor in ((first + second, 1), (first - second, -1)):
                self.assertIsInstance(made, Mixture)
                wanted = brute_sums.plus(polynomial_of(first, 4), polynomial_of(second, 4), factor)
                self.assertEqual(polynomial_of(made, 4), wanted)
            self.assertEqual(first + second, second + first)
            self.assertEqual(first - second + second, first)
            self.assertEqual((first - first).terms, ())
            self.assertEqual(first + first, first.scaled((2, 1)))

    def test_products_of_small_shapes(self):
        for first, second in product(SMALL, SMALL):
            size = sum(first) + sum(second)
            if size <= 5:
                many = max(1, size)
                wanted = brute_sums.times(brute_sums.shape_polynomial(first, many), brute_sums.shape_polynomial(second, many))
                self.assertEqual(polynomial_of(one(first) * one(second), many), wanted)

    def test_products_of_sums(self):
        for seed in range(30):
            first, second = some(seed, range(3), 3), some(seed + 50, range(3), 3)
            wanted = brute_sums.times(polynomial_of(first, 4), polynomial_of(second, 4))
            self.assertEqual(polynomial_of(first * second, 4), wanted)

    def test_products_of_size_8(self):
        for seed in range(10):
            first, second = some(seed, range(5)), some(seed + 10, range(5))
            made = first * second
            self.assertEqual(made, second * first)
            self.assertEqual(made.flip(), first.flip() * second.flip())
            for numbers in NUMBERS:
                worth = Fraction(*first.value(numbers)) * Fraction(*second.value(numbers))
                self.assertEqual(made.value(numbers), (worth.numerator, worth.denominator))
                worth = Fraction(*first.flip().value(numbers)) * Fraction(*second.flip().value(numbers))
                self.assertEqual(made.flip().value(numbers), (worth.numerator, worth.denominator))

    def test_strips(self):
        for shape in ALL:
            for size in range(1, 9 - sum(shape)):
                self.assertEqual((one(shape) * one((size,))).terms, self.with_strips(shape, size))
                flat = tuple(sum(part > at for part in shape) for at in range(shape[0])) if shape else ()
                self.assertEqual((one(flat) * one((1,) * size)).flip().terms, self.with_strips(shape, size))

    def with_strips(self, shape, size):
        """All shapes of which the boxes more stand in columns of their own."""
        found = []
        for longer in brute.parted(sum(shape) + size):
            more = brute.boxes(longer) - brute.boxes(shape)
            if len(more) == size and len({column for _, column in more}) == size:
                found.append((longer, (1, 1)))
        return tuple(sorted(found))

    def test_three_factors(self):
        for seed in range(8):
            first, second, third = [some(seed + at, range(3), 3) for at in (0, 20, 40)]
            self.assertEqual((first * second) * third, first * (second * third))
            self.assertEqual((first + second) * third, first * third + second * third)

    def test_8_boxes_and_9(self):
        for first, second in ((4, 4), (8, 0), (0, 8), (1, 7), (5, 3)):
            self.assertEqual((some(1, [first], 3) * some(2, [second], 3)).degree, 8)
        for first, second in (((5,), (4,)), ((8,), (1,)), ((1,), (1,) * 8), ((8,), (8,)), ((3, 3), (2, 1))):
            error = raised(lambda: one(first) * one(second))
            self.assertEqual([error.__class__, error.limit], [TooMany, 8])
        mixed = one(()) + one((5,))
        self.assertIs(raised(lambda: mixed * mixed).__class__, TooMany)
        self.assertIs(raised(lambda: mixed * one((4,))).__class__, TooMany)
        self.assertEqual((mixed * one((3,))).degree, 8)

    def test_nothing_times_anything(self):
        nothing = Mixture(())
        self.assertEqual([nothing * one((8,)), one((8,)) * nothing, nothing * nothing], [nothing] * 3)
        self.assertEqual([nothing + one((8,)), one((8,)) - nothing], [one((8,))] * 2)

    def test_scaled(self):
        mixture = some(5)
        for number in ((1, 1), (0, 1), (-1, 1), (7, 3), (-HUGE, 7), (1, HUGE)):
            told = mixture.scaled(number)
            wanted = [(shape, Fraction(*own) * Fraction(*number)) for shape, own in mixture.terms]
            self.assertEqual([(shape, Fraction(*own)) for shape, own in told.terms], [pair for pair in wanted if pair[1]])
            self.assertIsNone(raised(Mixture, told.terms))
        self.assertEqual(mixture.scaled((0, 1)), Mixture(()))
        self.assertEqual(mixture.scaled((2, 3)).scaled((3, 2)), mixture)
        same_by_name(self, mixture.scaled, number=(2, 3))

    def test_flipped(self):
        for shape in ALL:
            flat = tuple(sum(part > at for part in shape) for at in range(shape[0])) if shape else ()
            self.assertEqual(one(shape).flip().terms, ((flat, (1, 1)),))
        for seed in range(10):
            self.assertEqual(some(seed).flip().flip(), some(seed))
            self.assertEqual(some(seed).flip().written("columns"), some(seed).written("rows"))
        self.assertEqual(Mixture(()).flip(), Mixture(()))

    def test_held(self):
        for seed in range(20):
            first, second = some(seed, range(9), 30), some(seed + 30, range(9), 30)
            numbers = dict(second.terms)
            wanted = sum((Fraction(*own) * Fraction(*numbers.get(shape, (0, 1))) for shape, own in first.terms), Fraction(0))
            self.assertEqual(first.held(second), (wanted.numerator, wanted.denominator))
            self.assertEqual(second.held(first), first.held(second))
        self.assertEqual([one((2,)).held(one((1, 1))), Mixture(()).held(one((1,))), one((3,)).held(one((3,)))], [(0, 1), (0, 1), (1, 1)])
        same_by_name(self, some(3).held, other=some(4))

    def test_monomials_held_against_rows(self):
        monomials, rows = [
            {shape: Mixture.of(basis, ((shape, (1, 1)),)) for shape in ALL} for basis in ("monomials", "rows")
        ]
        for first, second in product(ALL, ALL):
            self.assertEqual(monomials[first].held(rows[second]), (int(first == second), 1))


class Values(unittest.TestCase):
    def test_sums_over_all_tables(self):
        for shape, numbers in product(SMALL, NUMBERS):
            wanted = 0
            for rows in brute.tables(shape, len(numbers)) if numbers or not shape else ():
                part = 1
                for row in rows:
                    for letter in row:
                        part *= numbers[letter - 1]
                wanted += part
            self.assertEqual(one(shape).value(numbers), (wanted, 1))

    def test_greater_shapes(self):
        for shape in ((8,), (4, 4), (5, 3), (2, 2, 2, 2), (1,) * 4, (3, 3, 2), (1,) * 8, (3, 2, 1, 1, 1)):
            for numbers in ((2, -3), (5, 1, -2), (1, 2, 3, -4)):
                if len(shape) > len(numbers) or sum(shape) < 8 or len(numbers) ** 8 < 7000:
                    wanted = brute_sums.value_of(brute_sums.shape_polynomial(shape, len(numbers)), numbers)
                    self.assertEqual(one(shape).value(numbers), wanted)
        self.assertEqual(one((2, 2, 2, 2)).value((1, 2, 3, -4)), ((1 * 2 * 3 * -4) ** 2, 1))
        self.assertEqual(one((8,)).value((1000,)), (1000 ** 8, 1))

    def test_fractions(self):
        for seed, numbers in product(range(10), NUMBERS):
            mixture = some(seed)
            wanted = sum((Fraction(*own) * one(shape).value(numbers)[0] for shape, own in mixture.terms), Fraction(0))
            self.assertEqual(mixture.value(numbers), (wanted.numerator, wanted.denominator))

    def test_no_variables(self):
        self.assertEqual([Mixture((((), (2, 3)), ((1,), (1, 1)))).value(()), Mixture(()).value((1, 2)), one((1,)).value(())], [(2, 3), (0, 1), (0, 1)])

    def test_by_name(self):
        same_by_name(self, some(2).value, numbers=(3, -1, 2))


class Objects(unittest.TestCase):
    def test_terms_and_degree(self):
        for seed in range(10):
            mixture = some(seed)
            self.assertEqual(same_by_name(self, Mixture, terms=mixture.terms).terms, mixture.terms)
            self.assertEqual(mixture.degree, max(sum(shape) for shape, _ in mixture.terms))
        self.assertEqual([Mixture(()).terms, Mixture(()).degree, one(()).degree, one((8,)).degree], [(), None, 0, 8])
        self.assertEqual(Mixture((((), (1, 1)), ((1, 1, 1), (1, 1)), ((2,), (1, 1)))).degree, 3)

    def test_truth(self):
        self.assertIs(bool(Mixture(())), False)
        self.assertIs(bool(one(())), True)
        self.assertIs(bool(some(1) - some(1)), False)
        self.assertIs(bool(some(1)), True)

    def test_equality(self):
        self.assertTrue(some(1) == some(1) and not some(1) != some(1))
        self.assertTrue(some(1) != some(2) and not some(1) == some(2))
        self.assertEqual(Mixture(()), one((1,)) - one((1,)))
        for value in NO_MIXTURES + [some(1).terms, 0, None, False]:
            self.assertIs(some(1) == value, False)
            self.assertIs(some(1) != value, True)
            self.assertIs(Mixture(()) == value, False)

    def test_great_fractions(self):
        great = Mixture((((1,), (HUGE, 7)), ((2,), (-1, HUGE))))
        self.assertEqual((great - great).terms, ())
        self.assertEqual((great * great).held(one((2,))), (HUGE * HUGE, 49))
        for basis in BASES:
            self.assertEqual(Mixture.of(basis, great.written(basis)), great)
        self.assertEqual(great.value((1,)), (HUGE * HUGE - 7, 7 * HUGE))

    def test_nothing_given_is_changed(self):
        first, second = some(1, range(4)), some(2, range(4))
        terms = (first.terms, second.terms)
        _ = [first + second, first - second, first * second, first.flip(), first.held(second), first.value((1, 2)), bool(first)]
        _ = [first.written(basis) for basis in BASES]
        self.assertEqual((first.terms, second.terms), terms)


class Wrong(unittest.TestCase):
    def test_terms(self):
        look_for_errors(self, Mixture, ("terms", some(1).terms, [(InvalidTerms, TERMS)]))

    def test_bases_and_terms(self):
        basis = ("basis", "powers", [(InvalidBasis, NO_BASES)])
        look_for_errors(self, Mixture.of, basis, ("terms", some(1).terms, [(InvalidTerms, TERMS)]))
        look_for_errors(self, some(1).written, basis)

    def test_numbers(self):
        look_for_errors(self, some(1).scaled, ("number", (2, 3), [(InvalidNumber, NO_FRACTIONS)]))
        wrong = NO_TUPLES + [
            (1001,), (-1001,), (1, 1001), (1,) * 5, (0,) * 5000, (HUGE,), (-HUGE,), (True,), (1, False), (None,), ("1",), ((1,),), ((),), ([1],),
            (1, 2, 3, 1001), (1j,), (Stranger(),), (1, (1, 1)), ({},), (1, None), TABLE,
        ]
        look_for_errors(self, some(1).value, ("numbers", (2, 3), [(InvalidNumber, wrong)]))

    def test_mixtures(self):
        look_for_errors(self, some(1).held, ("other", some(2), [(NotAMixture, NO_MIXTURES)]))

    def test_operands(self):
        for value in NO_MIXTURES + [some(1).terms, Fraction(1, 2)]:
            for mixture in (Mixture(()), one(()), some(1)):
                for action in (lambda: mixture + value, lambda: mixture - value, lambda: mixture * value):
                    look_at(self, raised(action), NotAMixture, value)


if __name__ == "__main__":
    unittest.main()
