"""Books and their claims: point 30, and wordshapes.books."""

import unittest
from functools import lru_cache
from random import Random

from tests import brute, brute_sums
from tests.samples import scattered
from tests.wrong import CLAIMS, DEEDS, NAMES, WORDS, Stranger, look_at, numbers, raised
from wordshapes.books import Book
from wordshapes.errors import (
    Broken, InUse, InvalidClaim, InvalidDeeds, InvalidIndex, InvalidName, InvalidWord, NothingToUndo, UnknownName,
)

SOME = [(), (1,), (2,), (1, 2), (2, 1), (1, 1), (2, 1, 2), (2, 2, 1), (1, 2, 1), (1, 2, 2), (2, 1, 1), (1, 2, 3), (3, 2, 1), (2, 3, 2), (12,)]
SOME += scattered(14, 5, 3, 31) + scattered(6, 6, 12, 32)
PARTED = [shape for size in range(7) for shape in brute.parted(size)]


def shape_of(word):
    return tuple(map(len, brute.table_of(word)))


@lru_cache(maxsize=None)
def total(word, many, fits):
    return brute.best_total(word, many, fits)


def second_of(word):
    """For each letter the row in which it makes a box."""
    rows, told = (), []
    for letter in word:
        rows, (row, _) = brute.put(rows, letter)
        told.append(row)
    return told


def is_true(claim, words):
    """Whether a claim holds, in the plainest way."""
    word = words[claim[1]]
    if claim[0] == "alike":
        return brute.table_of(word) == brute.table_of(words[claim[2]])
    if claim[0] == "web":
        return second_of(word) == second_of(words[claim[2]])
    if claim[0] == "heavier":
        shape, other = shape_of(word), shape_of(words[claim[2]])
        return sum(shape) == sum(other) and all(sum(shape[:k]) >= sum(other[:k]) for k in range(13))
    if claim[0] == "shape":
        return shape_of(word) == claim[2]
    if claim[0] == "highest":
        return brute_sums.is_ballot(word)
    return total(word, claim[2], brute.rises if claim[0] == "rising" else brute.falls) >= claim[3]


def claims_about(name, other):
    """Claims of all sorts."""
    return [
        ("alike", name, other), ("web", name, other), ("heavier", name, other), ("highest", name), *[("shape", name, shape) for shape in PARTED],
        *[(sort, name, many, least) for sort in ("rising", "falling") for many in (1, 2, 3, 12) for least in range(8)],
    ]


def shown(book):
    """All that a book shows."""
    return book.names, tuple(book[name] for name in book.names), book.claims, book.changes, len(book)


def book_with(**words):
    book = Book()
    for name, word in words.items():
        book[name] = word
    return book


class Failure(Exception):
    pass


class BookTest(unittest.TestCase):
    def look_at_refused(self, book, wanted, action, *given, **named):
        """An error that leaves the book as it was."""
        before = shown(book)
        error = raised(action, *given, **named)
        self.assertIs(error.__class__, wanted)
        self.assertEqual(shown(book), before)
        return error

    def look_at_broken(self, book, index, action, *given, **named):
        self.assertEqual(self.look_at_refused(book, Broken, action, *given, **named).index, index)


class Words(BookTest):
    def test_an_empty_book(self):
        book = Book()
        self.assertEqual([shown(book), bool(book), "a" in book], [((), (), (), 0, 0), False, False])

    def test_words_under_names(self):
        book = Book()
        book["w"] = (2, 1)
        book["abcdefgh"] = ()
        book["a"] = (12,) * 12
        self.assertEqual(shown(book), (("a", "abcdefgh", "w"), ((12,) * 12, (), (2, 1)), (), 3, 3))
        self.assertIs(bool(book), True)
        book["w"] = (1,)
        self.assertEqual([book["w"], book.changes, len(book)], [(1,), 4, 3])
        self.assertIsNone(book.drop("abcdefgh"))
        self.assertEqual([book.names, book.changes, len(book)], [("a", "w"), 5, 2])

    def test_putting_the_same_word_counts(self):
        book = book_with(a=(1,))
        book["a"] = (1,)
        self.assertEqual(book.changes, 2)

    def test_value_in_book(self):
        book = book_with(a=(1,), b=(2,))
        for value in NAMES + [Stranger(), [], {}, "c", "A", ("a",)]:
            self.assertIs(value in book, False)
        self.assertIs("a" in book, True)
        self.assertIs("b" not in book, False)

    def test_names_and_words_that_are_wrong(self):
        book = book_with(a=(1,))
        for name in NAMES:
            for word in [(2, 1), None, (0,), [1]]:
                error = self.look_at_refused(book, InvalidName, book.__setitem__, name, word)
                self.assertIs(error.given, name)
            look_at(self, self.look_at_refused(book, UnknownName, book.__getitem__, name), UnknownName, name)
            look_at(self, self.look_at_refused(book, UnknownName, book.drop, name), UnknownName, name)
        for word in WORDS:
            for name in ("a", "b"):
                look_at(self, self.look_at_refused(book, InvalidWord, book.__setitem__, name, word), InvalidWord, word)
        for name in ("b", "aa", "abcdefgh"):
            look_at(self, raised(book.__getitem__, name), UnknownName, name)
            look_at(self, raised(book.drop, name), UnknownName, name)

    def test_only_one_object_is_equal(self):
        one, other = Book(), Book()
        self.assertTrue(one == one and one != other and not one == other and one != () and one != {})

    def test_by_name(self):
        book = book_with(v=(1,), w=(2,))
        book.drop(name="w")
        book.claim(claim=("highest", "v"))
        book.lift(index=0)
        self.assertEqual([book.tried(action=lambda held: held.names), book.changes], [("v",), 5])
        self.assertEqual(book.do_all(("drop", "v"), watch=None), 1)


class Claims(BookTest):
    def look_at_claim(self, words, claim):
        book = book_with(**words)
        if is_true(claim, words):
            self.assertIsNone(book.claim(claim))
            self.assertEqual([book.claims, book.changes], [(claim,), len(words) + 1])
        else:
            self.look_at_broken(book, 0, book.claim, claim)

    def test_each_claim_over_many_words(self):
        for at, word in enumerate(SOME):
            for other in SOME if len(word) < 5 else SOME[at:at + 4]:
                for claim in claims_about("a", "b")[:3]:
                    self.look_at_claim({"a": word, "b": other}, claim)
            for claim in claims_about("a", "a"):
                self.look_at_claim({"a": word}, claim)

    def test_alike_words_and_words_of_one_web(self):
        words = {"a": (3, 1, 2, 1), "b": (1, 3, 2, 1), "c": (1, 2, 1), "d": (2, 3, 2)}
        for claim in [("alike", "a", "b"), ("alike", "b", "a"), ("web", "c", "d"), ("web", "d", "c"), ("alike", "c", "d"), ("web", "a", "b")]:
            self.look_at_claim(words, claim)

    def test_the_same_name_twice_and_the_same_claim_twice(self):
        book = book_with(a=(2, 1, 2))
        for claim in [("alike", "a", "a"), ("web", "a", "a"), ("heavier", "a", "a"), ("alike", "a", "a")]:
            book.claim(claim)
        self.assertEqual([len(book.claims), book.changes], [4, 5])
        book["a"] = (1, 2, 3)
        self.assertEqual(raised(book.drop, "a").index, 0)

    def test_twelve_letters(self):
        book = book_with(a=(1,) * 12, b=tuple(range(12, 0, -1)))
        claims = [
            ("rising", "a", 1, 12), ("falling", "a", 12, 12), ("falling", "b", 1, 12), ("rising", "b", 12, 12), ("shape", "a", (12,)),
            ("shape", "b", (1,) * 12), ("heavier", "a", "b"), ("highest", "a"), ("highest", "b"), ("rising", "b", 11, 11), ("rising", "b", 1, 0),
        ]
        for claim in claims:
            book.claim(claim)
        self.assertEqual(book.claims, tuple(claims))
        for claim in [("rising", "b", 11, 12), ("falling", "a", 11, 12), ("heavier", "b", "a"), ("shape", "a", ()), ("shape", "a", (11, 1))]:
            self.look_at_broken(book, len(claims), book.claim, claim)

    def test_unlike_sizes_are_not_heavier(self):
        for word, other in [((1, 1), (1,)), ((1,), (1, 1)), ((), (1,)), ((1,), ())]:
            book = book_with(a=word, b=other)
            self.look_at_broken(book, 0, book.claim, ("heavier", "a", "b"))

    def test_claims_of_no_form(self):
        book = book_with(v=(2, 1), w=(1,))
        for claim in CLAIMS:
            look_at(self, self.look_at_refused(book, InvalidClaim, book.claim, claim), InvalidClaim, claim)
            look_at(self, raised(book.claim, claim=claim), InvalidClaim, claim)

    def test_names_that_the_book_does_not_have(self):
        book = book_with(v=(2, 1), w=(1,))
        for value in NAMES + ["x", "vv", (1, 2), TypeError]:
            for claim in claims_about(value, "v") + claims_about("v", value)[:3] + claims_about(value, "x")[:3]:
                error = self.look_at_refused(book, UnknownName, book.claim, claim)
                look_at(self, error, UnknownName, value)

    def test_no_form_ahead_of_unknown_names_ahead_of_broken(self):
        book = book_with(v=(2, 1))
        for claim, error in {
            ("shape", "x", (1, 2)): InvalidClaim, ("rising", None, 0, 1): InvalidClaim, ("shape", "x", (2,)): UnknownName, ("alike", "v", 7): UnknownName,
            ("shape", "v", (2,)): Broken, ("rising", "v", 1, 2): Broken,
        }.items():
            self.look_at_refused(book, error, book.claim, claim)
        self.assertEqual(raised(book.claim, ("web", "y", "x")).given, "y")

    def test_lifting(self):
        book = book_with(a=(1, 2))
        for claim in [("rising", "a", 1, 2), ("highest", "a"), ("shape", "a", (2,))][::2]:
            book.claim(claim)
        for index in numbers(0, 1):
            look_at(self, self.look_at_refused(book, InvalidIndex, book.lift, index), InvalidIndex, index)
        self.assertIsNone(book.lift(0))
        self.assertEqual([book.claims, book.changes], [(("shape", "a", (2,)),), 4])
        book.lift(0)
        self.look_at_refused(book, InvalidIndex, book.lift, 0)


class Broke(BookTest):
    def test_the_first_claim_that_does_not_hold(self):
        book = book_with(v=(2, 1, 2), w=(2, 2, 1))
        for claim in [("rising", "w", 1, 2), ("shape", "v", (2, 1)), ("alike", "v", "w"), ("falling", "v", 1, 1)]:
            book.claim(claim)
        for name, word, index in [("w", (1, 2, 2), 2), ("v", (3, 2, 1), 1), ("w", (), 0), ("w", (3, 2, 1), 0), ("v", (), 1), ("v", (3, 1, 2), 2)]:
            self.look_at_broken(book, index, book.__setitem__, name, word)
        book["v"] = (2, 2, 1)
        book["w"] = (2, 1, 2)
        book["x"] = ()
        self.assertEqual([book["v"], book.changes], [(2, 2, 1), 9])

    def test_drawn_words_and_claims(self):
        for seed in range(6):
            dice, book = Random(seed), book_with(a=(2, 1), b=(1, 2, 1))
            for _ in range(60):
                self.drawn_change(book, dice)
            for claim in book.claims:
                self.assertTrue(is_true(claim, {name: book[name] for name in book.names}))

    def drawn_change(self, book, dice):
        words = {name: book[name] for name in book.names}
        claims = list(book.claims)
        if dice.random() < 0.5:
            name, word = dice.choice("abc"), dice.choice(SOME)
            action, given = book.__setitem__, (name, word)
            words[name] = word
        else:
            claim = dice.choice(claims_about(*dice.choices(book.names, k=2)))
            action, given = book.claim, (claim,)
            claims.append(claim)
        broken = [index for index, claim in enumerate(claims) if not is_true(claim, words)]
        if broken:
            self.look_at_broken(book, broken[0], action, *given)
        else:
            action(*given)
            self.assertEqual(shown(book)[:3], (tuple(sorted(words)), tuple(words[name] for name in sorted(words)), tuple(claims)))


class Dropping(BookTest):
    def test_names_in_use(self):
        book = book_with(a=(1,), b=(1,), c=(1,))
        for claim in [("highest", "a"), ("alike", "a", "b"), ("web", "b", "a"), ("rising", "b", 1, 1)]:
            book.claim(claim)
        for name, index in {"a": 0, "b": 1}.items():
            self.assertEqual(self.look_at_refused(book, InUse, book.drop, name).index, index)
        book.drop("c")
        book.lift(0)
        book.lift(0)
        self.assertEqual([raised(book.drop, "a").index, raised(book.drop, "b").index], [0, 0])
        book.lift(0)
        book.drop("a")
        self.assertEqual([book.names, raised(book.drop, "b").index, raised(book.drop, "a").__class__], [("b",), 0, UnknownName])

    def test_what_is_no_name_in_a_claim_is_not_in_use(self):
        book = book_with(shape=(1,), highest=(1,), alike=(1,))
        book.claim(("highest", "shape"))
        book.drop("highest")
        book.claim(("alike", "shape", "shape"))
        book.drop("alike")
        self.assertEqual(book.names, ("shape",))


class Undoing(BookTest):
    def test_back_to_the_empty_book(self):
        for seed in range(6):
            dice, book, before = Random(seed), Book(), []
            for _ in range(60):
                now = shown(book)
                if raised(self.drawn, book, dice) is None:
                    before.append(now)
                else:
                    self.assertEqual(shown(book), now)
            self.assertEqual(book.changes, len(before))
            for wanted in reversed(before):
                self.assertIsNone(book.undo())
                self.assertEqual(shown(book), wanted)
            self.look_at_refused(book, NothingToUndo, book.undo)

    def drawn(self, book, dice):
        sort = dice.choice(["set", "set", "claim", "claim", "drop", "lift"])
        if sort == "set":
            book[dice.choice("abcd")] = dice.choice(SOME)
        elif sort == "claim":
            book.claim(dice.choice(claims_about(dice.choice("abcd"), dice.choice("abcd"))))
        elif sort == "drop":
            book.drop(dice.choice("abcd"))
        else:
            book.lift(dice.randint(0, 3))

    def test_changes_behind_undoing(self):
        book = book_with(a=(1,), b=(2,))
        book.claim(("highest", "a"))
        book.undo()
        book.undo()
        book["a"] = (2,)
        self.assertEqual(shown(book), (("a",), ((2,),), (), 2, 1))
        book.undo()
        self.assertEqual(book["a"], (1,))


class DoAll(BookTest):
    GOOD = (
        ("set", "v", (2, 1, 2)), ("set", "w", (2, 2, 1)), ("claim", ("alike", "v", "w")), ("set", "x", ()), ("drop", "x"),
        ("claim", ("shape", "v", (2, 1))), ("lift", 0), ("set", "w", (1,)),
    )
    # Deeds of the right form that fail behind the first k good ones, whatever k is.
    BAD = [
        (("set", "", (1,)), InvalidName), (("set", None, None), InvalidName), (("set", "v", (0,)), InvalidWord), (("drop", "y"), UnknownName),
        (("drop", None), UnknownName), (("claim", ("alike", "v")), InvalidClaim), (("claim", None), InvalidClaim), (("lift", 7), InvalidIndex),
        (("lift", None), InvalidIndex), (("claim", ("highest", "y")), UnknownName),
    ]

    def test_no_deeds(self):
        book = book_with(a=(1,))
        before = shown(book)
        self.assertEqual([book.do_all(), book.do_all(watch=None), book.do_all(watch=self.fail), shown(book)], [0, 0, 0, before])

    def test_several_deeds(self):
        for many in range(len(self.GOOD) + 1):
            book, other = Book(), Book()
            self.assertEqual(book.do_all(*self.GOOD[:many]), many)
            for deed in self.GOOD[:many]:
                other.do_all(deed)
            self.assertEqual([shown(book), book.changes], [shown(other), many])

    def test_they_are_taken_back_one_by_one(self):
        book = Book()
        book.do_all(*self.GOOD)
        for many in reversed(range(len(self.GOOD))):
            book.undo()
            other = Book()
            other.do_all(*self.GOOD[:many])
            self.assertEqual(shown(book), shown(other))

    def test_deeds_that_fail_at_each_place(self):
        for at in range(len(self.GOOD) + 1):
            for deed, error in self.BAD:
                book = book_with(old=(5,))
                self.look_at_refused(book, error, book.do_all, *self.GOOD[:at], deed, *self.GOOD[at:])
                self.assertEqual([book.names, book.changes], [("old",), 1])

    def test_broken_claims_and_names_in_use(self):
        book = Book()
        self.look_at_broken(book, 0, book.do_all, *self.GOOD[:3], ("set", "w", (1, 2, 2)))
        self.look_at_broken(book, 1, book.do_all, *self.GOOD[:3], ("claim", ("highest", "v")), ("drop", "y"))
        self.assertEqual(self.look_at_refused(book, InUse, book.do_all, *self.GOOD[:3], ("drop", "w")).index, 0)

    def test_what_has_no_form_of_a_deed(self):
        for deed in DEEDS:
            for at in (0, 2, len(self.GOOD)):
                book, seen = book_with(old=(5,)), []
                deeds = self.GOOD[:at] + (deed,) + self.GOOD[at:] + (None,)
                error = self.look_at_refused(book, InvalidDeeds, book.do_all, *deeds, watch=seen.append)
                self.assertEqual([error.index, seen], [at, []])

    def test_no_form_ahead_of_what_fails(self):
        book = Book()
        self.assertEqual(self.look_at_refused(book, InvalidDeeds, book.do_all, ("drop", "y"), ("lift",)).index, 1)

    def test_watch_sees_each_effect(self):
        book, seen = Book(), []
        book["old"] = (5,)

        def watch(*given):
            self.assertEqual(len(given), 1)
            self.assertIs(given[0], book)
            seen.append(shown(book))

        self.assertEqual(book.do_all(*self.GOOD, watch=watch), len(self.GOOD))
        for many, told in enumerate(seen, start=1):
            other = Book()
            other["old"] = (5,)
            other.do_all(*self.GOOD[:many])
            self.assertEqual(told, shown(other))
        self.assertEqual(len(seen), len(self.GOOD))

    def test_watch_is_called_for_the_deeds_ahead_of_one_that_fails(self):
        for at in range(len(self.GOOD) + 1):
            book, seen = book_with(old=(5,)), []
            deeds = self.GOOD[:at] + (("drop", "y"),) + self.GOOD[at:]
            self.look_at_refused(book, UnknownName, book.do_all, *deeds, watch=lambda held: seen.append(held.changes))
            self.assertEqual(seen, list(range(2, at + 2)))

    def test_watch_that_raises(self):
        for at in range(1, len(self.GOOD) + 1):
            for failure in (Failure(), KeyboardInterrupt(), Broken(3), StopIteration()):
                book, left = book_with(old=(5,)), [at]

                def watch(held):
                    left[0] -= 1
                    if not left[0]:
                        raise failure

                before = shown(book)
                with self.assertRaises(failure.__class__) as caught:
                    book.do_all(*self.GOOD, watch=watch)
                self.assertIs(caught.exception, failure)
                self.assertEqual(shown(book), before)

    def test_watch_that_tries_something(self):
        book = Book()

        def watch(held):
            with held.trial():
                held["z"] = (1,)
                held.undo()
                held.undo()

        self.assertEqual(book.do_all(*self.GOOD, watch=watch), len(self.GOOD))
        other = Book()
        other.do_all(*self.GOOD)
        self.assertEqual(shown(book), shown(other))


class Trials(BookTest):
    def test_what_was_done_is_taken_back(self):
        book = book_with(a=(1,))
        book.claim(("highest", "a"))
        before = shown(book)
        with book.trial() as held:
            self.assertIs(held, book)
            book.lift(0)
            book.do_all(("set", "b", (2,)), ("drop", "a"))
            self.assertEqual(shown(book), (("b",), ((2,),), (), 5, 1))
        self.assertEqual(shown(book), before)

    def test_changes_from_before_can_be_taken_back(self):
        book = book_with(a=(1,), b=(2,))
        before = shown(book)
        with book.trial():
            book.undo()
            book.undo()
            self.look_at_refused(book, NothingToUndo, book.undo)
            book["c"] = (3,)
        self.assertEqual(shown(book), before)
        book.undo()
        book.undo()
        self.assertEqual(shown(book), shown(Book()))

    def test_trials_within_trials_also_the_same_one(self):
        book = book_with(a=(1,))
        one, other = book.trial(), book.trial()
        with one:
            book["b"] = (2,)
            with other:
                book["c"] = (3,)
                with one:
                    book.undo()
                    book.undo()
                    book.undo()
                self.assertEqual(book.names, ("a", "b", "c"))
            self.assertEqual(book.names, ("a", "b"))
            with one:
                book.drop("a")
            self.assertEqual(book.names, ("a", "b"))
        self.assertEqual([book.names, book.changes], [("a",), 1])

    def test_exceptions_are_passed_on(self):
        for failure in (Failure("why"), LookupError(3), KeyboardInterrupt(), Broken(5)):
            book = book_with(a=(1,))
            trial = book.trial()
            with self.assertRaises(failure.__class__) as caught:
                with trial:
                    book["b"] = (2,)
                    with trial:
                        book.drop("a")
                        raise failure
            self.assertIs(caught.exception, failure)
            self.assertEqual(shown(book), (("a",), ((1,),), (), 1, 1))

    def test_tried(self):
        book = book_with(a=(1,))

        def action(held):
            self.assertIs(held, book)
            held["b"] = (2, 1)
            held.drop("a")
            return held.names, held.changes

        before = shown(book)
        self.assertEqual([book.tried(action), shown(book)], [(("b",), 3), before])
        failure = Failure()

        def failing(held):
            held.undo()
            raise failure

        self.assertIs(raised(book.tried, failing), failure)
        self.assertEqual(shown(book), before)
        self.assertEqual(book.tried(lambda held: held.do_all(("set", "c", ()))), 1)
        self.assertIsNone(book.tried(lambda held: held.undo()))
        self.assertEqual(shown(book), before)


if __name__ == "__main__":
    unittest.main()
