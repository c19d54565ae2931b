"""Claims for the checker and their papers: point 31, and wordshapes.checker."""

import unittest
from itertools import product

from tests import brute, brute_claims
from tests.samples import LONG, SHORT, scattered
from tests.wrong import CLAIMS, DEEP, HIDDEN, HUGE, NAMES, NO_NUMBERS, PATTERNS, ROWS, TERMS, WORDS, Stranger, same_by_name
from wordshapes.certificates import (
    certify_alike, certify_falling, certify_grows, certify_heavier, certify_joins, certify_rising, certify_slides, certify_web,
)
from wordshapes.checker import accepts
from wordshapes.skews import Skew
from wordshapes.slides import beside, staircase
from wordshapes.tables import Table

MID = (2, 1, 3, 1, 2)
SORTS = ("alike", "web", "rising", "falling", "heavier", "lighter", "joins", "slides", "grows")
# A few claims of each sort with their papers.
RIGHT = [
    certify_alike((3, 1, 2, 1), (3, 2, 1, 1)), certify_alike((2, 1, 2), (2, 2, 1)), certify_alike((), ()), certify_alike((1, 4, 2, 3), (1, 4, 2, 3)),
    certify_alike((2, 3, 1, 1, 2), (2, 1, 3, 1, 2)), certify_web((1, 2, 1), (2, 3, 2)), certify_web(MID, MID), certify_web((), ()), certify_web((4, 2), (2, 1)),
    certify_rising(MID, 1), certify_rising(MID, 2), certify_rising((), 2), certify_rising((1, 2), 3), certify_rising((3, 2, 1), 2),
    certify_falling(MID, 1), certify_falling(MID, 2), certify_falling((), 1), certify_falling((2, 1), 3), certify_falling((1, 1, 2), 2),
    certify_heavier((3, 1), (2, 2)), certify_heavier((4,), (1, 1, 1, 1)), certify_heavier((2, 1), (2, 1)), certify_heavier((), ()),
    certify_heavier((2, 2), (3, 1)), certify_heavier((3, 1, 1, 1), (2, 2, 2)), certify_heavier((1, 1, 1), (3,)),
    certify_joins((2, 1), (2, 1), (3, 2, 1)), certify_joins((2,), (1,), (3,)), certify_joins((2,), (1,), (4,)), certify_joins((), (), ()),
    certify_joins((3,), (2, 1), (4, 1, 1)), certify_slides(Skew((1,), ((2,), (1, 3)))), certify_slides(staircase((2, 1, 3))), certify_slides(Skew((), ())),
    certify_slides(Skew((), ((1, 2), (3,)))), certify_slides(Skew((2, 1), ((), ()))), certify_slides(Skew((2, 2), ((1,), (2,), (1, 3)))),
    certify_grows((2, 1)), certify_grows((5, 3, 3)), certify_grows(()), certify_grows((1, 1, 2)),
]
ANY = NO_NUMBERS + [0, 1, -1, HUGE, DEEP, Stranger(), ("alike",), ["alike", (1,), (1,)]]


class Right(unittest.TestCase):
    def test_right_papers(self):
        for claim, paper in RIGHT:
            self.assertTrue(brute_claims.is_claim(claim) and brute_claims.is_true(claim))
            self.assertTrue(brute_claims.judged(claim, paper))
            self.assertIs(accepts(claim, paper), True)
        self.assertEqual({claim[0] for claim, _ in RIGHT}, set(SORTS))

    def test_other_papers_than_those_of_this_package(self):
        others = [
            (("alike", (2, 1, 2), (2, 1, 2)), (0, 0)), (("alike", (2, 1, 2), (2, 2, 1)), (0, 0, 0)), (("rising", MID, 1, 3), (((0, 2, 4),), ((0, 1), (2, 3), (4,)))),
            (("rising", MID, 1, 3), (((1, 3, 4),), ((2, 3), (0, 1), (4,)))), (("falling", (1, 2), 2, 2), (((1,), (0,)), ((0, 1),))),
            (("heavier", (4,), (2, 2)), ((4,), (3, 1), (2, 2))), (("lighter", (1, 1, 1, 1), (4,)), 2), (("lighter", (1, 1, 1, 1), (4,)), 3),
            (("joins", (2, 1), (2, 1), (3, 2, 1), 0), ()), (("joins", (2, 1), (2, 1), (3, 2, 1), 1), (((1,), (1,), (2,)),)),
            (("joins", (2, 1), (1,), (1,), 0), ()), (("slides", (2, 1), ((3,), (1,), (2,)), ((1, 3), (2,))), (0, 1, 0)),
            (("slides", (2, 1), ((3,), (1,), (2,)), ((1, 3), (2,))), (1, 0, 0)), (("web", (1, 2, 1), (2, 3, 2)), ((1,), (1, 2, 1))),
            (("web", (4,), (4,)), ((3, 2, 1), (3, 2, 1))),
        ]
        for claim, paper in others:
            self.assertIs(accepts(claim, paper), brute_claims.judged(claim, paper), (claim, paper))
        self.assertGreater(len([1 for claim, paper in others if accepts(claim, paper)]), 11)

    def test_long_words_and_great_shapes(self):
        for word in LONG + scattered(10, 12, 5, 41):
            other = Table.of(word).word
            certified = [certify_alike(word, other), certify_web(word, word), certify_grows(word), certify_slides(staircase(word))]
            certified += [certify_rising(word, many) for many in (1, 2, 12)] + [certify_falling(word, many) for many in (1, 3, 12)]
            for claim, paper in certified:
                self.assertIs(accepts(claim, paper), True)
                self.assertTrue(brute_claims.judged(claim, paper))

    def test_papers_of_any_length(self):
        self.assertIs(accepts(("alike", (2, 1, 2), (2, 1, 2)), (0,) * 20000), True)
        self.assertIs(accepts(("alike", (2, 1, 2), (2, 1, 2)), (0,) * 20001), False)
        self.assertIs(accepts(("web", (1, 2), (1, 2)), ((1,) * 20000, ())), False)
        self.assertIs(accepts(("rising", (1,), 1, 1), (((0,) * 20000,), ((0,),))), False)
        self.assertIs(accepts(("heavier", (2,), (2,)), ((2,),) * 20000), False)
        self.assertIs(accepts(("slides", (), (), ()), (0,) * 20000), False)
        self.assertIs(accepts(("grows", (), ()), (((),) * 20000,) * 20000), False)
        self.assertIs(accepts(("joins", (), (), (), 20000), ((),) * 20000), False)

    def test_by_place_and_by_name(self):
        for claim, paper in RIGHT:
            self.assertIs(same_by_name(self, accepts, claim=claim, paper=paper), True)


class Bent(unittest.TestCase):
    def look_at(self, claim, paper):
        told = accepts(claim, paper)
        self.assertIs(told, brute_claims.judged(claim, paper), (claim, paper))
        if told:
            self.assertTrue(brute_claims.is_true(claim), claim)
        return told

    def test_papers_bent_in_one_place(self):
        for claim, paper in RIGHT:
            for other in brute_claims.bent(paper):
                self.look_at(claim, other)

    def test_claims_bent_in_one_place(self):
        for claim, paper in RIGHT:
            for other in brute_claims.bent(claim):
                self.look_at(other, paper)

    def test_both_bent(self):
        for claim, paper in RIGHT:
            others = [other for other in brute_claims.bent(claim) if brute_claims.is_claim(other)]
            for other, bent in product(others[:12], brute_claims.bent(paper)[:60]):
                self.look_at(other, bent)

    def test_papers_of_other_claims(self):
        for claim, _ in RIGHT:
            for _, paper in RIGHT:
                self.look_at(claim, paper)
            for other in SORTS:
                for _, paper in RIGHT[::3]:
                    self.look_at((other,) + claim[1:], paper)

    def test_all_short_papers_of_moves(self):
        for word in [(2, 1, 2), (3, 1, 2, 1), (1, 3, 2, 2)]:
            for other in sorted(brute.word_class(word)) + [(1, 2, 3), word[::-1]]:
                for long in range(4):
                    for paper in product(range(-1, 4), repeat=long):
                        self.look_at(("alike", word, other), paper)

    def test_all_short_papers_of_raising(self):
        for word, other in [((1, 2, 1), (2, 3, 2)), ((3,), (2,)), ((1, 2), (1, 2)), ((2, 1), (1, 2))]:
            letters = [part for long in range(4) for part in product(range(0, 4), repeat=long)]
            for paper in product(letters[:40], letters[:40]):
                self.look_at(("web", word, other), paper)

    def test_totals_that_are_not_the_greatest(self):
        for word in [(1, 2), (2, 1), (1, 1, 2), (2, 1, 2)]:
            places = range(len(word))
            some = [()] + [(p,) for p in places] + [(p, q) for p in places for q in places]
            for many, total in product((1, 2), range(4)):
                for lots in product(some, repeat=many):
                    for cover in [tuple((p,) for p in places), (tuple(places),), ((0, 1),) + tuple((p,) for p in places[2:]), ((0, 1), (0,)), ((1,), (0, 2))]:
                        self.look_at(("rising", word, many, total), (lots, cover))
                        self.look_at(("falling", word, many, total), (lots, cover))

    def test_steps_between_all_shapes(self):
        for size in range(6):
            for shape, lower in product(brute.parted(size), repeat=2):
                self.look_at(("heavier", shape, lower), (shape, lower))
                self.look_at(("heavier", shape, lower), (shape,))
                for between in brute.parted(size):
                    self.look_at(("heavier", shape, lower), (shape, between, lower))
                for k in range(-2, 8):
                    self.look_at(("lighter", shape, lower), k)

    def test_unlike_sizes(self):
        for shape, lower in product([(), (1,), (2,), (1, 1), (2, 1), (12,)], repeat=2):
            for paper in [(shape, lower), (shape,), (lower,), (), 1, 2]:
                self.look_at(("heavier", shape, lower), paper)
                self.look_at(("lighter", shape, lower), paper)

    def test_slides_in_all_orders(self):
        for skew in [Skew((2, 1), ((3,), (1,), (2,))), Skew((2,), ((), (1, 2))), Skew((1, 1), ((1,), (2,), (1,))), beside(Table(((1, 2),)), Table(((1,),)))]:
            tables = [Table.of(skew.word).rows, skew.rows, ()]
            for paper in product(range(-1, 3), repeat=sum(skew.inner)):
                for table in tables:
                    self.look_at(("slides", skew.inner, skew.rows, table), paper)

    def test_fillings_that_are_no_ballot_fillings(self):
        first, second, third = (2, 1), (2, 1), (3, 2, 1)
        rows = list(product([((k,),) for k in range(1, 4)], repeat=3))
        rows = [tuple(row[0] for row in choice) for choice in rows]
        for one in rows:
            self.look_at(("joins", first, second, third, 1), (one,))
            for other in rows:
                self.look_at(("joins", first, second, third, 2), (one, other))

    def test_squares_of_other_words(self):
        for word, other in product(SHORT[::37] + [(1, 2), (2, 1), (3, 3)], repeat=2):
            claim, paper = certify_grows(other)
            self.look_at(("grows", word, claim[2]), paper)


class Strange(unittest.TestCase):
    def test_any_claim(self):
        for value in ANY + CLAIMS + WORDS + NAMES + PATTERNS + HIDDEN + ROWS + TERMS:
            for paper in [(), (()), ((), ()), ((),), 1, None, value]:
                self.assertIs(accepts(value, paper), False)

    def test_any_paper(self):
        for claim, _ in RIGHT:
            for value in ANY + CLAIMS + WORDS + PATTERNS + HIDDEN + ROWS + TERMS:
                self.assertIs(accepts(claim, value), brute_claims.judged(claim, value))

    def test_any_value_in_a_claim(self):
        for claim, paper in RIGHT:
            for at in range(len(claim)):
                for value in ANY + WORDS:
                    other = claim[:at] + (value,) + claim[at + 1:]
                    told = accepts(other, paper)
                    self.assertIs(told, brute_claims.judged(other, paper))
                    if told:
                        self.assertTrue(brute_claims.is_true(other))

    def test_any_value_in_a_paper(self):
        for claim, paper in RIGHT:
            for at in range(len(paper) if isinstance(paper, tuple) else 0):
                for value in ANY + ROWS:
                    other = paper[:at] + (value,) + paper[at + 1:]
                    self.assertIs(accepts(claim, other), brute_claims.judged(claim, other))

    def test_true_for_one(self):
        self.assertIs(accepts(("rising", (1,), 1, 1), (((0,),), ((0,),))), True)
        for claim, paper in [
            (("rising", (1,), True, 1), (((0,),), ((0,),))), (("rising", (1,), 1, True), (((0,),), ((0,),))), (("rising", (True,), 1, 1), (((0,),), ((0,),))),
            (("rising", (1,), 1, 1), (((False,),), ((0,),))), (("rising", (1,), 1, 1), (((0,),), ((False,),))), (("lighter", (1, 1), (2,)), True),
            (("grows", (1,), (True,)), certify_grows((1,))[1]), (("grows", (1,), (1,)), (((), ()), ((), (True,)))), (("heavier", (1,), (1,)), ((True,),)),
            (("joins", (), (), (), True), ((),)), (("joins", (), (), (), False), ()), (("slides", (1,), ((),), ()), (False,)),
            (("alike", (2, 1, 2), (2, 2, 1)), (False,)), (("web", (2,), (1,)), ((True,), ())),
        ]:
            self.assertIs(accepts(claim, paper), False, claim)

    def test_limits(self):
        twelve, thirteen = tuple(range(12, 0, -1)), tuple(range(13, 0, -1))
        self.assertIs(accepts(("alike", twelve, twelve), ()), True)
        self.assertIs(accepts(("alike", thirteen, thirteen), ()), False)
        self.assertIs(accepts(("alike", (1,) * 13, (1,) * 13), ()), False)
        self.assertIs(accepts(("heavier", (12,), (12,)), ((12,),)), True)
        self.assertIs(accepts(("heavier", (13,), (13,)), ((13,),)), False)
        self.assertIs(accepts(("lighter", (7, 6), (8, 5)), 1), False)
        self.assertIs(accepts(("joins", (13,), (), (13,), 1), (((),),)), False)
        self.assertIs(accepts(("joins", (12,), (), (12,), 1), (((),),)), True)
        self.assertIs(accepts(("web", (12,), (11,)), (tuple(range(11, 0, -1)), tuple(range(10, 0, -1)))), True)
        self.assertIs(accepts(("web", (12,), (11,)), ((12,) + tuple(range(11, 0, -1)), tuple(range(10, 0, -1)))), False)
        for sort in ("rising", "falling"):
            self.assertIs(accepts((sort, (), 1, 0), (((),), ())), True)
            self.assertIs(accepts((sort, (1,), 12, 1), (((0,),) + ((),) * 11, ((0,),))), True)
            self.assertIs(accepts((sort, (), 0, 0), ((), ())), False)
            self.assertIs(accepts((sort, (1,), 0, 0), ((), ((0,),))), False)
            self.assertIs(accepts((sort, (1,), 13, 1), (((0,),) + ((),) * 12, ((0,),))), False)
        deep = Skew(tuple(range(11, 0, -1)), tuple((letter,) for letter in range(12, 0, -1)))
        self.assertIs(accepts(*certify_slides(deep)), True)
        self.assertIs(accepts(("slides", (67,), ((),), ()), (0,) * 67), False)
        self.assertIs(accepts(("slides", (66,), ((),), ()), (0,) * 66), True)


if __name__ == "__main__":
    unittest.main()
