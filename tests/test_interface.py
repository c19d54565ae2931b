"""The interface: each name stands in its module, with its parameters, and is defined there."""

import inspect
import unittest
from importlib import import_module

FUNCTIONS = {
    "shapes": """shapes_of(size) flipped(shape) holds(outer, inner) corner_rows(shape) outer_rows(shape) with_box(shape, row) without_box(shape, row)
        heavier(shape, other) steps_down(shape, other) first_lighter(shape, other) with_strips(shape, size) with_columns(shape, size)
        hook(shape, row, column)""",
    "words": "amounts(word) standing(word) descents(word) inverse(order) turned(word, most) word_text(word) word_in(text)",
    "moves": "moves(word) moved(word, place) alike(word, other) chain(word, other) class_of(word) class_count(word)",
    "pairs": """pair_of(word) word_of(first, second) pair_of_array(array) array_of(first, second) exchanged(array) array_of_matrix(matrix)
        matrix_of(array, rows, columns)""",
    "lots": """rising_total(word, many) falling_total(word, many) rising_lots(word, many) falling_lots(word, many) cover(word, many)
        rising_cover(word, many)""",
    "slides": "slid_in(skew, row) slid_out(skew, row) rectified(skew) rectified_by(skew, rows) staircase(word) beside(first, second)",
    "turns": """toggled(table, letter) promoted(table, most) demoted(table, most) evacuated(table, most) promoted_often(table, most, times)
        period(table, most)""",
    "strings": """ends(word, letter) raised(word, letter) lowered(word, letter) mirrored(word, letter) is_highest(word) highest(word) way_up(word)
        lowest(word, most) web_of(word, most) one_web(word, other)""",
    "growths": "growth_of(table) table_of(growth) growth_count(shape) growth_at(shape, index) growth_index(growth) growth_descents(growth)",
    "counts": """table_count(shape, amounts) tables_with(shape, amounts) letter_count(shape, most) margin_count(rows, columns)
        zero_one_count(rows, columns) own_inverse_count(size)""",
    "ribbons": "ribbons(shape, size) character(shape, cycle) center(shape, size) cycle_weight(cycle)",
    "ballots": "is_ballot(word) ballot_fillings(outer, inner, amounts) ballot_count(outer, inner, amounts)",
    "hives": "hives(first, second, third) hive_count(first, second, third) hive_of(skew) skew_of(hive)",
    "joins": "join_count(first, second, third) joined(first, second) skew_terms(outer, inner) pairs_for(table, first, second)",
    "squares": "square_of(word) is_square(square) order_of(square) sides(square)",
    "sorting": """inversion_count(order) exchanged_at(order, letter) order_by(row, size) is_reduced(row) reduced_rows(order) reduced_count(order)
        braids(row) braided(row, place) sorted_pair(row) sorted_row(first, second) order_mixture(order)""",
    "marks": """settled(word) rounds(word) marks(word) charge(word) cocharge(word) row_weight(shape) mark_numbers(shape, amounts)
        standard_marks(shape)""",
    "patterns": """is_pattern(value) pattern_of(table, most) table_of_pattern(pattern) pattern_toggled(pattern, row) pattern_sum(pattern, other)
        pattern_count(shape, most) patterns(shape, most)""",
    "hidden": """fillings_of(hidden) seen_shapes(hidden) seen_tables(hidden) sure_boxes(hidden) sure_descents(hidden) letters_for(hidden, shape)
        fillings_with(hidden, second) alike_fillings(hidden, word) nearest(word, table)""",
    "logs": "done(bench, line) played(lines)",
    "checker": "accepts(claim, paper)",
    "certificates": """certify_alike(word, other) certify_web(word, other) certify_rising(word, many) certify_falling(word, many)
        certify_heavier(shape, other) certify_joins(first, second, third) certify_slides(skew) certify_grows(word)""",
}
CLASSES = {
    ("tables", "Table"): "__init__(self, rows) of(word) put(self, letter) put_by_columns(self, letter) taken(self, row) times(self, other) part(self, most)",
    ("skews", "Skew"): "__init__(self, inner, rows)",
    ("mixtures", "Mixture"): """__init__(self, terms) of(basis, terms) written(self, basis) scaled(self, number) flip(self) held(self, other)
        value(self, numbers)""",
    ("benches", "Bench"): """__init__(self) write(self, letter) erase(self) raise_at(self, letter) lower_at(self, letter) mirror_at(self, letter)
        move(self, place) turn(self, most) take_table(self, table) take_second(self, second) undo(self) trial(self) tried(self, action)""",
    ("books", "Book"): """__init__(self) drop(self, name) claim(self, claim) lift(self, index) undo(self) do_all(self, *deeds, watch=None) trial(self)
        tried(self, action)""",
    ("console", "Console"): "__init__(self) say(self, line)",
}
ATTRIBUTES = {
    ("tables", "Table", ((),)): "rows shape word amounts text standard",
    ("skews", "Skew", ((), ())): "inner outer rows word amounts text",
    ("mixtures", "Mixture", ((),)): "terms degree",
    ("benches", "Bench", ()): "word table second shape changes log",
    ("books", "Book", ()): "names claims changes",
    ("console", "Console", ()): "book",
}


def signatures(text):
    """The names and parameters in a row of such."""
    told = {}
    for part in " ".join(text.split()).split(") "):
        name, _, rest = part.removesuffix(")").partition("(")
        told[name] = f"({rest})"
    return told


class Interface(unittest.TestCase):
    def test_functions(self):
        for file, text in FUNCTIONS.items():
            module = import_module(f"wordshapes.{file}")
            for name, parameters in signatures(text).items():
                function = getattr(module, name)
                self.assertTrue(inspect.isfunction(function))
                self.assertEqual([function.__module__, str(inspect.signature(function))], [f"wordshapes.{file}", parameters], name)

    def test_classes(self):
        for (file, name), text in CLASSES.items():
            found = getattr(import_module(f"wordshapes.{file}"), name)
            self.assertEqual(found.__module__, f"wordshapes.{file}")
            for method, parameters in signatures(text).items():
                self.assertIn(method, vars(found))
                held = inspect.getattr_static(found, method)
                function = held.__func__ if isinstance(held, staticmethod) else held
                self.assertEqual(str(inspect.signature(function)), parameters, (name, method))

    def test_attributes_are_set_when_an_object_is_created(self):
        for (file, name, given), text in ATTRIBUTES.items():
            made = getattr(import_module(f"wordshapes.{file}"), name)(*given)
            self.assertLessEqual(set(text.split()), set(vars(made)))

    def test_signs(self):
        from wordshapes.books import Book
        from wordshapes.mixtures import Mixture
        for owner, names in {Book: ["__setitem__", "__getitem__", "__contains__", "__len__"], Mixture: ["__add__", "__sub__", "__mul__", "__eq__", "__bool__"]}.items():
            self.assertLessEqual(set(names), set(vars(owner)))


if __name__ == "__main__":
    unittest.main()
