"""Terms of mixtures: rows of pairs of a shape and a fraction, added up, and written in other bases."""

from wordshapes.boxes import columns_of
from wordshapes.checks import is_shape
from wordshapes.errors import InvalidTerms
from wordshapes.limits import MOST_DEGREE
from wordshapes.ratios import NOTHING, added, is_fraction, multiplied
from wordshapes.ribbons import character, cycle_weight
from wordshapes.shapes import shapes_of
from wordshapes.strips import ballot_stacks, stack_counts

BASES = ("shapes", "monomials", "rows", "columns", "powers")


def check_terms(value):
    """Raises an error for what are no terms of a mixture."""
    if not isinstance(value, tuple) or not all([is_term(pair) for pair in value]):
        raise InvalidTerms(value)
    shapes = [shape for shape, _ in value]
    if not all([ahead < behind for ahead, behind in zip(shapes, shapes[1:])]):
        raise InvalidTerms(value)


def is_term(value):
    """Whether it is a pair of a shape and a fraction that is not 0."""
    if not isinstance(value, tuple) or len(value) != 2:
        return False
    return is_shape(value[0], MOST_DEGREE) and is_fraction(value[1]) and value[1] != NOTHING


def summed(pairs):
    """The terms that pairs of shapes and fractions make, like shapes being added."""
    totals = {}
    for shape, number in pairs:
        totals[shape] = added(totals.get(shape, NOTHING), number)
    return tuple(sorted([(shape, number) for shape, number in totals.items() if number != NOTHING]))


def scaled_terms(terms, number):
    """The terms, each one times a fraction."""
    return summed([(shape, multiplied(own, number)) for shape, own in terms])


def flipped_terms(terms):
    """The terms with the flipped shapes."""
    return summed([(columns_of(shape), number) for shape, number in terms])


def product_of_terms(terms, other):
    """The terms of the product of two mixtures."""
    return summed([
        (third, multiplied(number, factor))
        for first, number in terms
        for second, factor in other
        for third in shapes_in_product(first, second)
    ])


def shapes_in_product(first, second):
    """The shapes in the product of two shapes, each as often as it is there."""
    size = sum(first) + sum(second)
    return [stack[-1] for stack in ballot_stacks(first, (size,) * size, second)]


def terms_from(basis, terms):
    """What terms in a basis are in shapes."""
    if basis == "shapes":
        return terms
    if basis == "monomials":
        return gathered(terms, shape_in_rows)
    if basis == "rows":
        return spread(terms, row_in_shapes)
    if basis == "columns":
        return flipped_terms(spread(terms, row_in_shapes))
    return spread(terms, power_in_shapes)


def terms_to(basis, terms):
    """What terms in shapes are in a basis."""
    if basis == "shapes":
        return terms
    if basis == "monomials":
        return gathered(terms, row_in_shapes)
    if basis == "rows":
        return spread(terms, shape_in_rows)
    if basis == "columns":
        return spread(flipped_terms(terms), shape_in_rows)
    # The powers are square to one another, and held against itself each one gives its weight.
    held = gathered(terms, power_in_shapes)
    return tuple([(shape, multiplied(number, (1, cycle_weight(shape)))) for shape, number in held])


def spread(terms, expansion):
    """The terms, each shape being replaced by what the expansion tells of it."""
    return summed([
        (told, multiplied(number, (often, 1)))
        for shape, number in terms
        for told, often in expansion(shape)
    ])


def gathered(terms, expansion):
    """For each shape the terms held against what the expansion tells of it."""
    numbers = {shape: number for shape, number in terms}
    sizes = sorted(set([sum(shape) for shape in numbers]))
    return summed([
        (shape, multiplied(numbers[told], (often, 1)))
        for size in sizes
        for shape in shapes_of(size)
        for told, often in expansion(shape)
        if told in numbers
    ])


def row_in_shapes(shape):
    """The product of rows with as many boxes as the elements of a shape, as pairs of a shape and an integer."""
    size = sum(shape)
    return list(stack_counts((), (size,) * size, shape).items())


def power_in_shapes(cycle):
    """The product of the sums of powers with these exponents, as pairs of a shape and an integer."""
    return [(shape, character(shape, cycle)) for shape in shapes_of(sum(cycle))]


def shape_in_rows(shape):
    """A shape as a sum of products of rows, as pairs of a shape of such a product and an integer.

    It is the determinant that has, in each row and column, a row of as many boxes as the element
    there and how far the column lies to the right of the diagonal. It is worked out row by row:
    under the columns that are used so far stand the products, with their numbers.
    """
    numbers = {((), ()): 1}
    for row, part in enumerate(shape):
        grown = {}
        for (used, parts), number in numbers.items():
            for column in range(max(0, row - part), len(shape)):
                if column not in used:
                    passed = [other for other in used if other > column]
                    boxes = part + column - row
                    key = (tuple(sorted(used + (column,))), with_part(parts, boxes))
                    grown[key] = grown.get(key, 0) + (number if len(passed) % 2 == 0 else -number)
        numbers = grown
    return [(parts, number) for (_, parts), number in numbers.items()]


def with_part(parts, boxes):
    """The shape with one row of so many boxes more, where it fits."""
    return tuple(sorted([part for part in parts + (boxes,) if part], reverse=True))
