"""How many tables, matrices and orders there are of some kind."""

from wordshapes.boxes import product_of_hooks
from wordshapes.checks import are_amounts, check_amounts, check_listed, check_number, check_shape
from wordshapes.errors import InvalidAmounts
from wordshapes.limits import MOST_BOXES, MOST_LONG
from wordshapes.strips import rows_of_stack, stack_counts, stacks
from wordshapes.tables import Table

MOST_LINES = 6


def table_count(shape, amounts):
    """How many tables have a shape and amounts."""
    check_shape(shape, MOST_BOXES)
    check_amounts(amounts)
    return filling_count(shape, amounts)


def filling_count(shape, amounts):
    """How many tables have a shape and amounts, both being known to be such."""
    if sum(shape) != sum(amounts):
        return 0
    return stack_counts((), shape, amounts).get(shape, 0)


def tables_with(shape, amounts):
    """All tables with a shape and amounts, ascending by their rows."""
    check_shape(shape)
    check_amounts(amounts)
    check_listed(filling_count(shape, amounts))
    if sum(shape) != sum(amounts):
        return ()
    return tuple([Table(rows) for rows in sorted([rows_of_stack(stack) for stack in stacks((), shape, amounts)])])


def letter_count(shape, most):
    """How many tables of a shape have letters up to a number."""
    check_shape(shape, MOST_BOXES)
    check_number(most, 1, MOST_BOXES)
    # The product, over all boxes, of most and how far the box stands to the right of the
    # diagonal, over the product of all hooks.
    choices = 1
    for row, wide in enumerate(shape):
        for column in range(wide):
            choices *= most + column - row
    return choices // product_of_hooks(shape)


def margin_count(rows, columns):
    """How many arrays of numbers from 0 on have these sums of rows and of columns."""
    check_margins(rows, columns)
    return array_count(rows, columns, MOST_LONG)


def zero_one_count(rows, columns):
    """How many arrays of 0 and 1 have these sums of rows and of columns."""
    check_margins(rows, columns)
    return array_count(rows, columns, 1)


def check_margins(rows, columns):
    """Raises an error for what are no sums of rows or of columns."""
    for sums in (rows, columns):
        if not are_amounts(sums) or len(sums) > MOST_LINES or sum(sums) > MOST_LONG:
            raise InvalidAmounts(sums)


def array_count(rows, columns, most):
    """How many arrays of numbers from 0 to the greatest one have these sums of rows and of columns."""
    if sum(rows) != sum(columns):
        return 0
    # What is left of the columns behind some rows, with the number of ways that lead there.
    counts = {columns: 1}
    for total in rows:
        behind = {}
        for left, often in counts.items():
            for less in columns_less(left, total, most):
                behind[less] = behind.get(less, 0) + often
        counts = behind
    return sum(list(counts.values()))


def columns_less(columns, total, most):
    """The sums of columns that can be left below a row with this sum."""
    begun = [((), total)]
    for column in columns:
        begun = [
            (parts + (column - number,), left - number)
            for parts, left in begun
            for number in range(min(column, left, most) + 1)
        ]
    return [parts for parts, left in begun if left == 0]


def own_inverse_count(size):
    """How many orders of so many letters are their own inverses."""
    check_number(size, 0, MOST_BOXES)
    # The last letter stands in its own place, or it is exchanged with one of the others.
    before, now = 0, 1
    for others in range(size):
        before, now = now, now + others * before
    return now
