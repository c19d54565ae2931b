"""Squares: point 29, and wordshapes.squares."""

import unittest
from itertools import permutations

from tests import brute
from tests.samples import MIDDLE, SHORT, TWELVE
from tests.wrong import HUGE, NO_TUPLES, SKEW, TABLE, WORDS, Stranger, look_at, look_for_errors, raised, same_by_name
from wordshapes.errors import InvalidPair, InvalidWord
from wordshapes.pairs import pair_of
from wordshapes.squares import is_square, order_of, sides, square_of
from wordshapes.words import standing

ALL = SHORT + MIDDLE + TWELVE
TWO = (((), (), ()), ((), (), (1,)), ((), (1,), (1, 1)))
# Nearly a square, or not even that.
NO_SQUARES = NO_TUPLES + [
    (), ((),), ((), ()), (((),), ((),)), ((1,),), (((1,),),), (((), ()), ((), ())), (((), ()), ((), (2,))), (((), ()), ((1,), (1,))), (((), (1,)), ((), (1,))),
    (((), ()), ((), [1])), (((), ()), [(), (1,)]), [((), ()), ((), (1,))], (((), ()), ((), (True,))), (((), ()), ((), (1, 1))), (((), ()), ((),)),
    (((), ()), ((), (1,), (1,))), (((), ()), ((), (1,)), ((), (1,))), (((), ()),), (((), ()), ((), (HUGE,))), (((), ()), ((), (-1,))), (((), ()), ((), "1")),
    (((), ()), ((), None)), (((), ()), ((), (None,))), (((), ()), ((), ((1,),))), (((), ()), ((), (Stranger(),))), (((), ()), ((), Stranger())), ("ab", "cd"),
    ([],), (None,), ({},), ((), (1,)), TWO[:2], TWO[1:], TWO + ((),), TWO[::-1], (TWO[0], TWO[1], ((), (1,), (2,))), (TWO[0], TWO[2], TWO[2]),
    (TWO[0], TWO[0], TWO[2]), (TWO[0], ((), (1,), (1,)), TWO[2]), (TWO[0], TWO[1], ((), (1,), (1, 1), ())), (TWO[0], list(TWO[1]), TWO[2]),
    (((), (), ()), ((), (), ()), ((), (), ())), (((), (), ()), ((), (1,), (1,)), ((), (1,), (1, 1))), (((), (), ()), ((), (1,), (2,)), ((), (1,), (2,))),
    (((),) * 14,) * 14, ((),) * 5000, ((((),) * 13,) * 13), (((), ()), ((), (1, 0))), TABLE, SKEW, (TABLE,),
]


def square(word):
    """The square of a word, each shape told by a table of its own."""
    order = tuple(sorted(range(len(word)), key=lambda at: (word[at], at)).index(place) + 1 for place in range(len(word)))
    return tuple(
        tuple(tuple(map(len, brute.table_of([letter for letter in order[:i] if letter <= j]))) for j in range(len(word) + 1))
        for i in range(len(word) + 1)
    )


class Squares(unittest.TestCase):
    def test_shapes_of_all_beginnings(self):
        for word in ALL:
            self.assertEqual(same_by_name(self, square_of, word=word), square(word))

    def test_the_empty_word(self):
        self.assertEqual([square_of(()), order_of((((),),)), sides((((),),))], [(((),),), (), (((),), ((),))])
        self.assertIs(is_square((((),),)), True)

    def test_orders(self):
        for word in ALL + list(permutations(range(1, 7))):
            told = square_of(word)
            self.assertIs(is_square(told), True)
            self.assertEqual(order_of(told), standing(word))
            self.assertEqual(square_of(order_of(told)), told)

    def test_sides_are_those_of_both_tables(self):
        for word in ALL:
            bottom, right = sides(square_of(word))
            first, second = pair_of(standing(word))
            for end in range(len(word) + 1):
                self.assertEqual(bottom[end], first.part(end).shape)
                self.assertEqual(right[end], second.part(end).shape)
            self.assertEqual([len(bottom), len(right)], [len(word) + 1] * 2)

    def test_all_squares_are_unlike(self):
        orders = [order for long in range(6) for order in permutations(range(1, long + 1))]
        self.assertEqual(len({square_of(order) for order in orders}), len(orders))

    def test_by_name(self):
        for action in (is_square, order_of, sides):
            same_by_name(self, action, square=square_of((2, 1, 3, 1, 2)))


class Wrong(unittest.TestCase):
    def test_words(self):
        look_for_errors(self, square_of, ("word", (2, 1), [(InvalidWord, WORDS)]))

    def test_squares(self):
        for value in NO_SQUARES:
            self.assertIs(is_square(value), False)
        for action in (order_of, sides):
            look_for_errors(self, action, ("square", TWO, [(InvalidPair, NO_SQUARES)]))

    def test_one_shape_changed(self):
        for word in ((2, 1, 3, 1, 2), (3, 1, 2), (1, 2, 3, 4), (4, 3, 2, 1), TWELVE[5], TWELVE[-1]):
            told = square_of(word)
            for i in range(len(told)):
                for j in range(len(told)):
                    for other in ((), (1,), (2,), (1, 1), (2, 1), (2, 2), (3, 1), told[i - 1][j], told[i][j - 1]):
                        changed = tuple(
                            tuple(other if (i, j) == (row, at) else shape for at, shape in enumerate(line)) for row, line in enumerate(told))
                        if other != told[i][j]:
                            self.assertIs(is_square(changed), False)
                            look_at(self, raised(order_of, changed), InvalidPair, changed)


if __name__ == "__main__":
    unittest.main()
