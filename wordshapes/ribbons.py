"""Ribbons taken away from shapes, and the characters, centers and weights that come of it."""

from math import factorial

from wordshapes.checks import check_number, check_shape
from wordshapes.errors import UnlikeSizes
from wordshapes.limits import MOST_BOXES


def ribbons(shape, size):
    """The pairs of what is left without a ribbon of so many boxes and the height of this ribbon, ascending."""
    check_ribbon(shape, size)
    return ribbons_of(shape, size)


def check_ribbon(shape, size):
    """Raises an error for what is no shape, or no size of a ribbon."""
    check_shape(shape, MOST_BOXES)
    check_number(size, 1, MOST_BOXES)


def ribbons_of(shape, size):
    """The ribbons of a shape, as pairs of what is left and the height, ascending.

    Each row is told by how far its end lies from the foot of the shape, along its border: these
    ends are all unlike. To take a ribbon away is to bring one end nearer by its size, to where
    no end lies; it passes an end for each row that the ribbon is in but the first.
    """
    ends = [part + len(shape) - 1 - row for row, part in enumerate(shape)]
    told = []
    for end in ends:
        nearer = end - size
        if nearer >= 0 and nearer not in ends:
            others = [other for other in ends if other != end]
            passed = [other for other in others if nearer < other < end]
            told.append((shape_with_ends(others + [nearer]), len(passed)))
    return tuple(sorted(told))


def shape_with_ends(ends):
    """The shape whose rows have these ends along its border."""
    parts = [end - rank for rank, end in enumerate(sorted(ends))]
    return tuple([part for part in parts[::-1] if part])


def character(shape, cycle):
    """The character of a shape at a cycle shape of the same size."""
    check_shape(shape, MOST_BOXES)
    check_shape(cycle, MOST_BOXES)
    if sum(shape) != sum(cycle):
        raise UnlikeSizes()
    # What can be left behind some ribbons, with the sum of the signs of all ways that lead there.
    signs = {shape: 1}
    for size in cycle:
        behind = {}
        for left, sign in signs.items():
            for less, height in ribbons_of(left, size):
                behind[less] = behind.get(less, 0) + (sign if height % 2 == 0 else -sign)
        signs = behind
    return signs.get((), 0)


def center(shape, size):
    """What is left of a shape if ribbons of so many boxes are taken away as long as there are any."""
    check_ribbon(shape, size)
    told = ribbons_of(shape, size)
    while told:
        shape, _ = told[0]
        told = ribbons_of(shape, size)
    return shape


def cycle_weight(cycle):
    """The product of the numbers of a cycle shape and of the factorials of how often each of them is there."""
    check_shape(cycle, MOST_BOXES)
    weight = 1
    for number in cycle:
        weight *= number
    for number in sorted(set(cycle)):
        weight *= factorial(cycle.count(number))
    return weight
