"""Each example of the document, as it stands there."""

import unittest

EXAMPLES = r"""
>>> from wordshapes.shapes import corner_rows, first_lighter, flipped, heavier, holds, hook, outer_rows, shapes_of, steps_down
>>> from wordshapes.shapes import with_box, with_columns, with_strips, without_box
>>> [shapes_of(4), flipped((3, 2)), holds((3, 2), (2, 2)), corner_rows((3, 3, 1)), outer_rows((3, 3, 1)), with_box((3, 3, 1), 2), without_box((3, 3, 1), 1), hook((3, 2), 0, 1)]
[((4,), (3, 1), (2, 2), (2, 1, 1), (1, 1, 1, 1)), (2, 2, 1), True, (1, 2), (0, 2, 3), (3, 3, 2), (3, 2, 1), 3]
>>> [heavier((3, 1, 1), (2, 2, 1)), heavier((3, 1, 1, 1), (2, 2, 2)), first_lighter((3, 1, 1, 1), (2, 2, 2)), first_lighter((4, 1), (3, 2)), with_strips((2, 1), 2), with_columns((2, 1), 2)]
[True, False, 3, None, ((4, 1), (3, 2), (3, 1, 1), (2, 2, 1)), ((3, 2), (3, 1, 1), (2, 2, 1), (2, 1, 1, 1))]
>>> steps_down((3, 1), (2, 2))
((3, 1), (2, 2))
>>> from wordshapes.words import amounts, descents, inverse, standing, turned, word_in, word_text
>>> [amounts((3, 1, 2, 1)), standing((3, 1, 2, 1)), inverse((4, 1, 3, 2)), descents((3, 1, 2, 1)), amounts((4, 4))]
[(2, 1, 1), (4, 1, 3, 2), (2, 4, 3, 1), (0, 2), (0, 0, 0, 2)]
>>> [turned((3, 1, 2, 1), 3), turned((3, 1), 12), word_text((3, 12, 1)), word_in("3.12.1"), word_text(()), word_in("-")]
[(3, 2, 3, 1), (12, 10), '3.12.1', (3, 12, 1), '-', ()]
>>> from wordshapes.tables import Table
>>> small = Table.of((3, 1, 2, 1))
>>> [small.rows, small.shape, small.word, small.amounts, small.text, small.standard, repr(Table(()))]
[((1, 1), (2,), (3,)), (2, 1, 1), (3, 2, 1, 1), (2, 1, 1), '1.1/2/3', False, "Table('-')"]
>>> [small.put(2).text, small.put_by_columns(1).text, small.put_by_columns(3).text, small.taken(0)[0].text, small.taken(2)[0].text, small.taken(2)[1]]
['1.1.2/2/3', '1.1.1/2/3', '1.1/2.3/3', '1/2/3', '1.2/3', 1]
>>> [Table.of((2,)).times(Table.of((1, 2))).text, small.part(2).text, small.part(0).text, Table(((1, 3), (2,))).standard]
['1.2/2', '1.1/2', '-', True]
>>> from wordshapes.moves import alike, chain, class_count, class_of, moved, moves
>>> [moves((3, 1, 2, 1)), moved((3, 1, 2, 1), 0), moved((3, 1, 2, 1), 1), alike((3, 1, 2, 1), (1, 3, 2, 1)), chain((3, 1, 2, 1), (3, 2, 1, 1)) is None, chain((1, 2), (2, 1))]
[(0, 1), (1, 3, 2, 1), (3, 2, 1, 1), True, False, None]
>>> [class_of((3, 1, 2, 1)), class_count((3, 1, 2, 1)), class_count((1, 4, 2, 5, 3, 6)), class_of(()), chain((5, 5), (5, 5))]
[((1, 3, 2, 1), (3, 1, 2, 1), (3, 2, 1, 1)), 3, 9, ((),), ()]
>>> from wordshapes.pairs import array_of, array_of_matrix, exchanged, matrix_of, pair_of, pair_of_array, word_of
>>> from wordshapes.tables import Table
>>> [pair_of((3, 1, 2, 1))[0].text, pair_of((3, 1, 2, 1))[1].text]
['1.1/2/3', '1.3/2/4']
>>> [word_of(Table(((1, 1), (2,), (3,))), Table(((1, 3), (2,), (4,)))), array_of(Table(((1, 2), (2, 3))), Table(((1, 1), (2, 2)))), exchanged(((1, 2), (1, 3), (2, 1), (2, 2)))]
[(3, 1, 2, 1), ((1, 2), (1, 3), (2, 1), (2, 2)), ((1, 2), (2, 1), (2, 2), (3, 1))]
>>> [pair_of_array(((1, 2), (2, 1), (2, 2), (3, 1)))[0].text, pair_of_array(((1, 2), (2, 1), (2, 2), (3, 1)))[1].text, array_of_matrix(((0, 1), (2, 0))), matrix_of(((1, 2), (2, 1), (2, 1)), 2, 3)]
['1.1/2.2', '1.2/2.3', ((1, 2), (2, 1), (2, 1)), ((0, 1, 0), (2, 0, 0))]
>>> from wordshapes.lots import cover, falling_lots, falling_total, rising_cover, rising_lots, rising_total
>>> mid = (2, 1, 3, 1, 2)
>>> [rising_total(mid, 1), rising_total(mid, 2), falling_total(mid, 1), falling_total(mid, 2), falling_total(mid, 3), rising_lots(mid, 1), rising_total((), 4), rising_lots((), 2), cover((), 1)]
[3, 5, 2, 4, 5, ((1, 3, 4),), 0, ((), ()), ()]
>>> [len(cover(mid, 1)), len(rising_lots(mid, 2)), len(falling_lots(mid, 3))]
[3, 2, 3]
>>> from wordshapes.skews import Skew
>>> bent = Skew((1,), ((2,), (1, 3)))
>>> [bent.outer, bent.word, bent.amounts, bent.text, Skew((2, 1), ((3,), (1,), (2,))).word, Skew((2,), ((),)).text, Skew((), ()).text]
[(2, 2), (1, 3, 2), (1, 1, 1), '_.2/1.3', (2, 1, 3), '_._', '-']
>>> Skew((1,), ((2,), (3, 1)))
raises InvalidRows(given=((2,), (3, 1)))
>>> from wordshapes.slides import beside, rectified, rectified_by, slid_in, slid_out, staircase
>>> [slid_in(bent, 0).rows, slid_out(Skew((), ((1, 2), (3,))), 1) == bent, slid_out(Skew((), ((1, 2), (3,))), 2).text, rectified(bent).rows, staircase((2, 1, 3)).text]
[((1, 2), (3,)), True, '_.2/1/3', ((1, 2), (3,)), '_._.3/_.1/2']
>>> [rectified(staircase((2, 1, 3))).rows, rectified_by(staircase((2, 1, 3)), (1, 0, 0)).rows, beside(Table(((1, 2),)), Table(((1,), (3,)))).text, rectified(beside(Table(((1, 2),)), Table(((1,), (3,))))).rows]
[((1, 3), (2,)), ((1, 3), (2,)), '_._.1/_._.3/1.2', ((1, 1, 3), (2,))]
>>> slid_in(bent, 1)
raises InvalidRow(given=1)
>>> from wordshapes.turns import demoted, evacuated, period, promoted, promoted_often, toggled
>>> low, square = Table(((1, 2), (3,))), Table(((1, 2), (3, 4)))
>>> [toggled(Table(((1, 1, 1), (2,))), 1).rows, toggled(low, 1) == low, toggled(low, 2).rows, promoted(low, 3).rows, demoted(promoted(low, 3), 3) == low, evacuated(low, 3).rows, promoted(low, 4).rows]
[((1, 2, 2), (2,)), True, ((1, 3), (2,)), ((1, 3), (2,)), True, ((1, 3), (2,)), ((1, 4), (2,))]
>>> [period(low, 3), period(square, 4), promoted(square, 4).rows, promoted_often(square, 4, 2000) == square, evacuated(square, 4) == square, period(Table(((1, 1),)), 3)]
[2, 2, ((1, 3), (2, 4)), True, True, 3]
>>> from wordshapes.strings import ends, highest, is_highest, lowered, lowest, mirrored, one_web, raised, way_up, web_of
>>> [ends(mid, 1), ends(mid, 2), ends(mid, 3), raised(mid, 1), lowered(mid, 1), lowered(mid, 2), mirrored((2, 1, 1, 1, 2), 1), highest(mid), way_up(mid), is_highest((2, 1, 2, 1, 1))]
[(1, 1), (0, 1), (0, 1), (2, 1, 3, 1, 1), (2, 1, 3, 2, 2), (3, 1, 3, 1, 2), (2, 1, 1, 2, 2), (2, 1, 2, 1, 1), (1, 2), True]
>>> [web_of((1, 2, 1), 2), lowest((1, 2, 1), 3), one_web((1, 2, 1), (2, 1, 1)), one_web((1, 2, 1), (2, 3, 2)), len(web_of((2, 1), 4))]
[((1, 2, 1), (2, 2, 1)), (3, 3, 2), False, True, 6]
>>> from wordshapes.growths import growth_at, growth_count, growth_descents, growth_index, growth_of, table_of
>>> [growth_of(Table(((1, 3), (2,)))), table_of((0, 0, 1)).rows, growth_count((2, 1)), growth_count((3, 2, 1)), growth_count((20, 20)), growth_count(()), growth_at((2, 1), 0), growth_at((2, 1), 1), growth_index((0, 1, 0)), growth_descents((0, 1, 0)), growth_descents((0, 0, 1, 1))]
[(0, 1, 0), ((1, 2), (3,)), 2, 16, 6564120420, 1, (0, 0, 1), (0, 1, 0), 1, (1,), (2,)]
>>> growth_of(Table(((1, 1),)))
raises NotStandard()
>>> from wordshapes.counts import letter_count, margin_count, own_inverse_count, table_count, tables_with, zero_one_count
>>> [table_count((2, 1), (1, 1, 1)), table_count((3, 1), (1, 1, 2)), table_count((2, 2), (0, 2, 2)), table_count((2, 1), (3,)), letter_count((2, 1), 3), letter_count((2, 2), 3), letter_count((1, 1, 1), 2), letter_count((), 5)]
[2, 2, 1, 0, 8, 6, 0, 1]
>>> [tables_with((2, 1), (1, 1, 1)) == (Table(((1, 2), (3,))), Table(((1, 3), (2,)))), margin_count((2, 1), (1, 2)), margin_count((1, 1, 1), (1, 1, 1)), zero_one_count((2, 1), (1, 2)), own_inverse_count(4), own_inverse_count(5), own_inverse_count(0)]
[True, 2, 6, 1, 10, 26, 1]
>>> from wordshapes.ribbons import center, character, cycle_weight, ribbons
>>> [ribbons((3, 2), 2), ribbons((3, 2), 4), ribbons((2, 1), 3), ribbons((2, 1), 2), character((2, 1), (1, 1, 1)), character((2, 1), (2, 1)), character((2, 1), (3,)), character((2, 2), (2, 2)), character((2, 2), (3, 1)), character((), ())]
[(((3,), 0),), (((1,), 1),), (((), 1),), (), 2, 0, -1, 2, -1, 1]
>>> [center((3, 2), 2), center((2, 1), 2), center((3, 2), 1), cycle_weight((2, 1, 1)), cycle_weight((2, 2)), cycle_weight((3,)), cycle_weight(()), character((20, 20), (1,) * 40) == growth_count((20, 20))]
[(1,), (2, 1), (), 4, 8, 3, 1, True]
>>> from wordshapes.mixtures import Mixture
>>> one, two = Mixture((((1,), (1, 1)),)), Mixture((((2,), (1, 1)),))
>>> [(one * two).terms, (two * two).terms, Mixture.of("powers", (((2,), (1, 1)),)).terms, (one * one).written("powers"), two.written("monomials"), two.flip().terms]
[(((2, 1), (1, 1)), ((3,), (1, 1))), (((2, 2), (1, 1)), ((3, 1), (1, 1)), ((4,), (1, 1))), (((1, 1), (-1, 1)), ((2,), (1, 1))), (((1, 1), (1, 1)),), (((1, 1), (1, 1)), ((2,), (1, 1))), (((1, 1), (1, 1)),)]
>>> [two.value((1, 1, 1)), two.written("powers"), two.written("columns"), (one * one).held(two), (two - two).degree, bool(two - two), two.scaled((1, 2)).terms, two.value(())]
[(6, 1), (((1, 1), (1, 2)), ((2,), (1, 2))), (((1, 1), (1, 1)), ((2,), (-1, 1))), (1, 1), None, False, (((2,), (1, 2)),), (0, 1)]
>>> from wordshapes.ballots import ballot_count, ballot_fillings, is_ballot
>>> [is_ballot((2, 1, 2, 1, 1)), is_ballot((1, 2)), is_ballot(()), ballot_fillings((3, 2), (2, 1), (1, 1))[0].rows, ballot_count((3, 2, 1), (2, 1), (2, 1)), ballot_count((3, 2), (2, 1), (2,))]
[True, False, True, ((1,), (2,)), 2, 1]
>>> from wordshapes.hives import hive_count, hive_of, hives, skew_of
>>> part = ballot_fillings((3, 2), (2, 1), (1, 1))[0]
>>> [hives((2, 1), (1, 1), (3, 2)), hive_of(part), skew_of(hive_of(part)) == part, hive_count((2, 1), (2, 1), (3, 2, 1)), hives((1,), (1,), (1, 1))]
[(((0, 3, 5), (2, 4), (3,)),), ((0, 3, 5), (2, 4), (3,)), True, 2, (((0, 1, 2), (1, 2), (1,)),)]
>>> from wordshapes.joins import join_count, joined, pairs_for, skew_terms
>>> from wordshapes.tables import Table
>>> [join_count((2, 1), (2, 1), (3, 2, 1)), join_count((2,), (1,), (4,)), joined((2, 1), (1, 1)), skew_terms((3, 2), (2,)), skew_terms((2, 1), (1,))]
[2, 0, (((2, 1, 1, 1), 1), ((2, 2, 1), 1), ((3, 1, 1), 1), ((3, 2), 1)), (((2, 1), 1), ((3,), 1)), (((1, 1), 1), ((2,), 1))]
>>> [len(pairs_for(Table(((1, 2), (3,))), (2,), (1,))), pairs_for(Table(((1, 2), (3,))), (2,), (1,))[0] == (Table(((1, 3),)), Table(((2,),)))]
[1, True]
>>> from wordshapes.squares import is_square, order_of, sides, square_of
>>> [square_of((2, 1)), is_square(square_of(mid)), order_of(square_of((5, 3))), sides(square_of((2, 2))), is_square(((), ()))]
[(((), (), ()), ((), (), (1,)), ((), (1,), (1, 1))), True, (2, 1), (((), (1,), (2,)), ((), (1,), (2,))), False]
>>> from wordshapes.sorting import braided, braids, exchanged_at, inversion_count, is_reduced, order_by, order_mixture
>>> from wordshapes.sorting import reduced_count, reduced_rows, sorted_pair, sorted_row
>>> [inversion_count((3, 2, 1)), exchanged_at((3, 2, 1), 2), order_by((1, 2, 1), 3), is_reduced((1, 2, 1)), is_reduced((1, 1)), reduced_rows((3, 2, 1)), reduced_count((4, 3, 2, 1)), braids((1, 3, 2, 3)), braided((1, 2, 1), 0)]
[3, (3, 1, 2), (3, 2, 1), True, False, ((1, 2, 1), (2, 1, 2)), 16, (0, 1), (2, 1, 2)]
>>> [sorted_pair((1, 2, 1))[0].text, sorted_pair((2, 1, 2))[0].text, sorted_pair((2, 1, 2))[1].text, sorted_row(Table(((1, 2), (2,))), Table(((1, 3), (2,)))), order_mixture((3, 2, 1)).terms, order_mixture((2, 1, 4, 3)).terms]
['1.2/2', '1.2/2', '1.3/2', (2, 1, 2), (((2, 1), (1, 1)),), (((1, 1), (1, 1)), ((2,), (1, 1)))]
>>> from wordshapes.marks import charge, cocharge, mark_numbers, marks, rounds, row_weight, settled, standard_marks
>>> [charge((1, 2, 3)), charge((3, 2, 1)), charge((2, 1, 3)), charge((1, 1, 2, 2)), charge((2, 1, 1, 2)), cocharge((2, 1, 1, 2)), charge(()), settled((2, 2, 1)), charge((2, 2, 1))]
[3, 0, 1, 2, 1, 1, 0, (1, 2, 1), 0]
>>> [rounds((3, 1, 1, 2)), marks((3, 1, 1, 2)), rounds((2, 1, 1, 2)), row_weight((3, 2, 1)), mark_numbers((3, 1), (2, 1, 1)), mark_numbers((3, 1), (1, 2, 1)), mark_numbers((2, 2), (2, 2)), mark_numbers((2, 2), (3, 1)), standard_marks((2, 1)), standard_marks((2, 2))]
[((2, 3, 0), (1,)), (1, 0, 0, 1), ((2, 0), (1, 3)), 4, (0, 1, 1), (0, 1, 1), (1,), (), (0, 1, 1), (0, 0, 1, 0, 1)]
>>> marks((2, 2, 1))
raises InvalidWord(given=(2, 2, 1))
>>> from wordshapes.patterns import is_pattern, pattern_count, pattern_of, pattern_sum, pattern_toggled, patterns, table_of_pattern
>>> from wordshapes.tables import Table
>>> bent = Table(((1, 1, 3), (2,)))
>>> [pattern_of(bent, 3), pattern_of(bent, 4)[3], table_of_pattern(((2,), (3, 1))).text, pattern_toggled(pattern_of(bent, 3), 2), table_of_pattern(((2,), (3, 0), (3, 1, 0))).text, pattern_toggled(((2,), (3, 1)), 1)]
[((2,), (2, 1), (3, 1, 0)), (3, 1, 0, 0), '1.1.2/2', ((2,), (3, 0), (3, 1, 0)), '1.1.2/3', ((2,), (3, 1))]
>>> [pattern_sum(((2,), (3, 1)), ((1,), (1, 0))), table_of_pattern(((3,), (4, 1))).text, patterns((2,), 2), pattern_count((2, 1), 3), pattern_count((1, 1, 1), 2), is_pattern(((2,), (1, 1))), is_pattern(((0,),))]
[((3,), (4, 1)), '1.1.1.2/2', (((0,), (2, 0)), ((1,), (2, 0)), ((2,), (2, 0))), 8, 0, False, True]
>>> pattern_toggled(((2,), (3, 1)), 2)
raises InvalidRow(given=2)
>>> from wordshapes.hidden import alike_fillings, fillings_of, fillings_with, letters_for, nearest, seen_shapes, seen_tables, sure_boxes, sure_descents
>>> from wordshapes.tables import Table
>>> veiled = (2, (1, 3), 1)
>>> [fillings_of(veiled), seen_shapes(veiled), seen_tables(veiled)[1].text, sure_boxes(veiled), sure_descents(veiled), sure_descents((2, (1, 3), 3))]
[((2, 1, 1), (2, 3, 1)), (((2, 1), 2),), '1.3/2', ((0, 0, 1), (1, 0, 2)), (), ()]
>>> [letters_for(veiled, (2, 1)), letters_for(veiled, (3,)), fillings_with(veiled, Table(((1, 2), (3,)))), alike_fillings(veiled, (1, 2, 1)), nearest((2, 3, 1), Table(((1, 1), (2,)))), nearest((1,), Table(()))]
[((2,), (1, 3), (1,)), None, ((2, 3, 1),), ((2, 1, 1),), (1, (2, 1, 1)), None]
>>> from wordshapes.benches import Bench
>>> bench = Bench()
>>> [bench.write(2), bench.write(1), bench.write(2), bench.word, bench.table.text, bench.second.text, bench.lower_at(2), bench.word, bench.second.text, bench.move(0), bench.word, bench.table.text]
[None, None, None, (2, 1, 2), '1.2/2', '1.3/2', None, (2, 1, 3), '1.3/2', None, (2, 3, 1), '1.3/2']
>>> from wordshapes.logs import done, played
>>> other = played(("write 2", "write 1", "write 2", "lower 2", "move 0"))
>>> [other.word, other.log, done(other, "table 1.2/2"), other.word, other.changes, played(()).log]
[(2, 3, 1), ('write 2', 'write 1', 'write 2', 'lower 2', 'move 0'), None, (2, 2, 1), 6, ()]
>>> played(("write 2", "raise 2"))
raises InvalidLog(index=1)
>>> from wordshapes.books import Book
>>> book = Book()
>>> made = book.do_all(("set", "v", (2, 1, 2)), ("set", "w", (2, 2, 1)), ("claim", ("alike", "v", "w")), ("claim", ("shape", "v", (2, 1))), ("claim", ("rising", "w", 1, 2)))
>>> [made, book.names, len(book.claims), book.changes, book.undo(), book.claims[-1][0]]
[5, ('v', 'w'), 3, 5, None, 'shape']
>>> book.do_all(("set", "w", (1, 2, 2)))
raises Broken(index=0)
>>> from wordshapes.certificates import certify_alike, certify_falling, certify_grows, certify_heavier, certify_joins, certify_rising, certify_web
>>> from wordshapes.checker import accepts
>>> papers = [certify_alike((2, 1, 2), (2, 2, 1)), certify_web((1, 2, 1), (2, 3, 2)), certify_rising(mid, 2), certify_heavier((3, 1), (2, 2)), certify_heavier((2, 2), (3, 1)), certify_joins((2, 1), (2, 1), (3, 2, 1)), certify_grows((2, 1))]
>>> [papers[0][0][0], papers[1][0][0], papers[2][0][3], papers[3][0][0], papers[4], papers[5][0][4], papers[6][0][2], certify_alike((1, 2), (2, 1))]
['alike', 'web', 5, 'heavier', (('lighter', (2, 2), (3, 1)), 1), 2, (1, 1), None]
>>> [accepts(papers[0][0], papers[0][1]), accepts(papers[1][0], papers[1][1]), accepts(papers[2][0], papers[2][1]), accepts(papers[5][0], papers[5][1]), accepts(papers[6][0], papers[6][1]), accepts(("alike", (1, 2), (2, 1)), (0,)), accepts(("rising", mid, 1, 3), (((1, 3, 4),), ((0, 1), (2, 3), (4,))))]
[True, True, True, True, True, False, True]
>>> from wordshapes.console import Console
>>> console = Console()
>>> [console.say("w = 2.1.3.1.2"), console.say("w second"), console.say("w top"), console.say("v = 2.1.2.1.1"), console.say("w web v"), console.say("count 3.2"), console.say("join 2.1 2.1 3.2.1"), console.say("character 2.1 3"), console.say("w rising 1 3")]
['1.1.2/2.3', '1.3.5/2.4', '2.1.2.1.1', '1.1.1/2.2', 'ok', '5', '2', '-1', 'ok']
"""


def told(source, names):
    """What an example tells, written as in the document."""
    try:
        return repr(eval(source, names))
    except Exception as error:  # an example may be one of an error
        given = ", ".join(f"{name}={value!r}" for name, value in vars(error).items())
        return f"raises {error.__class__.__name__}({given})"


class Examples(unittest.TestCase):
    def test_examples(self):
        names, lines = {}, EXAMPLES.strip().split("\n")
        looked_at = 0
        for line, behind in zip(lines, lines[1:] + [">>>"]):
            source = line.removeprefix(">>> ")
            if line != source and behind.startswith(">>>"):
                exec(source, names)
            elif line != source:
                looked_at += 1
                self.assertEqual(told(source, names), behind, source)
        self.assertEqual(looked_at, 55)


if __name__ == "__main__":
    unittest.main()
