"""Mixtures: sums of shapes, worked with like numbers and written in five bases."""

from wordshapes.checks import is_between
from wordshapes.errors import InvalidBasis, InvalidNumber, NotAMixture, TooMany
from wordshapes.limits import MOST_DEGREE, MOST_ROWS
from wordshapes.ratios import is_fraction, multiplied, total_of
from wordshapes.strips import strips_on
from wordshapes.terms import BASES, check_terms, flipped_terms, product_of_terms, scaled_terms, summed
from wordshapes.terms import terms_from, terms_to

GREATEST_NUMBER = 1000


class Mixture:
    """A sum of shapes of size up to 8, each with a fraction."""

    def __init__(self, terms):
        check_terms(terms)
        self.terms = terms
        self.degree = max([sum(shape) for shape, _ in terms], default=None)

    @staticmethod
    def of(basis, terms):
        """The sum of what the shapes stand for in a basis, times the fractions."""
        check_basis(basis)
        check_terms(terms)
        return Mixture(terms_from(basis, terms))

    def __eq__(self, other):
        return isinstance(other, Mixture) and self.terms == other.terms

    def __bool__(self):
        return bool(self.terms)

    def __add__(self, other):
        check_mixture(other)
        return Mixture(summed(self.terms + other.terms))

    def __sub__(self, other):
        check_mixture(other)
        return Mixture(summed(self.terms + scaled_terms(other.terms, (-1, 1))))

    def __mul__(self, other):
        check_mixture(other)
        if self.terms and other.terms and self.degree + other.degree > MOST_DEGREE:
            raise TooMany(MOST_DEGREE)
        return Mixture(product_of_terms(self.terms, other.terms))

    def written(self, basis):
        """The terms in which it is written in a basis."""
        check_basis(basis)
        return terms_to(basis, self.terms)

    def scaled(self, number):
        """The mixture times a fraction."""
        if not is_fraction(number):
            raise InvalidNumber(number)
        return Mixture(scaled_terms(self.terms, number))

    def flip(self):
        """The mixture with the flipped shapes."""
        return Mixture(flipped_terms(self.terms))

    def held(self, other):
        """The sum, over all shapes, of the products of both fractions."""
        check_mixture(other)
        factors = {shape: factor for shape, factor in other.terms}
        return total_of([multiplied(number, factors[shape]) for shape, number in self.terms if shape in factors])

    def value(self, numbers):
        """The fraction that the polynomial has at these numbers."""
        if not are_variables(numbers):
            raise InvalidNumber(numbers)
        worths = shapes_at(numbers)
        return total_of([multiplied(number, (worths.get(shape, 0), 1)) for shape, number in self.terms])


def check_mixture(value):
    """Raises an error for what is no mixture."""
    if not isinstance(value, Mixture):
        raise NotAMixture(value)


def check_basis(value):
    """Raises an error for what is no name of a basis."""
    if not isinstance(value, str) or value not in BASES:
        raise InvalidBasis(value)


def are_variables(value):
    """Whether it is a tuple of numbers at which mixtures can be told."""
    if not isinstance(value, tuple) or len(value) > MOST_ROWS:
        return False
    return all([is_between(number, -GREATEST_NUMBER, GREATEST_NUMBER) for number in value])


def shapes_at(numbers):
    """What the polynomials of all shapes in so many variables are at these numbers; those left out are 0."""
    # In a table the greatest letter stands in a row strip: one variable more is one strip more.
    worths = {(): 1}
    for number in numbers:
        grown = {}
        for shape, worth in worths.items():
            for size in range(MOST_DEGREE - sum(shape) + 1):
                for longer in strips_on(shape, size):
                    grown[longer] = grown.get(longer, 0) + worth
                worth = worth * number
        worths = grown
    return worths
