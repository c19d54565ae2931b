"""Words, tables and skews to try things on."""

from random import Random

from tests import brute

SHORT = [word for long in range(6) for word in brute.words(long, 3)]
LONG = [
    (12,) * 12, (1,) * 12, tuple(range(1, 13)), tuple(range(12, 0, -1)), (12, 1) * 6, (3, 12, 10, 1, 11, 2, 2, 9, 9, 10, 1, 12),
    (6, 7, 5, 8, 4, 9, 3, 10, 2, 11, 1, 12), (4, 4, 3, 3, 2, 2, 1, 1, 5, 5, 6, 6), (2, 1) * 6, (1, 2, 3) * 4, (3, 2, 1) * 4,
    (7, 8, 9, 4, 5, 6, 1, 2, 3, 10, 11, 12), (3, 6, 9, 12, 2, 5, 8, 11, 1, 4, 7, 10),
]


def scattered(many, long, letters, seed):
    """Words of a length, the same ones each time."""
    dice = Random(seed)
    return [tuple(dice.randint(1, letters) for _ in range(long)) for _ in range(many)]


def orders(many, long, seed):
    """Orders of a length, the same ones each time."""
    dice = Random(seed)
    return [tuple(dice.sample(range(1, long + 1), long)) for _ in range(many)]


TWELVE = LONG + [word for letters in (2, 3, 5, 12) for word in scattered(25, 12, letters, letters)] + orders(25, 12, 1)
MIDDLE = [word for long in (6, 7, 8, 9) for word in scattered(8, long, 4, long) + orders(5, long, long)]
