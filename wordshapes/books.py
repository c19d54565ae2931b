"""Books: words under names, and claims that hold after each change."""

from wordshapes.checks import check_index, check_word
from wordshapes.claims import first_broken, is_book_claim, is_name, names_of
from wordshapes.errors import Broken, InUse, InvalidClaim, InvalidDeeds, InvalidName, NothingToUndo, UnknownName

PARTS_OF_DEEDS = {"set": 3, "drop": 2, "claim": 2, "lift": 2}


class Book:
    """Words under names and a row of claims, at first none of both."""

    def __init__(self):
        self.show({}, (), ())

    def show(self, words, claims, past):
        """Shows words and claims, and the past to which changes can be taken back."""
        self.words = words
        self.names = tuple(sorted(list(words)))
        self.claims = claims
        self.past = past
        self.changes = len(past)

    def lead_to(self, words, claims):
        """Shows the words and claims to which one change more has led, if all the claims hold."""
        index = first_broken(claims, words)
        if index is not None:
            raise Broken(index)
        self.show(words, claims, self.past + ((self.words, self.claims),))

    def __setitem__(self, at, worth):
        if not is_name(at):
            raise InvalidName(at)
        check_word(worth)
        self.lead_to({**self.words, at: worth}, self.claims)

    def __getitem__(self, at):
        check_known(at, self.words)
        return self.words[at]

    def __iter__(self):
        raise TypeError("a book is not iterated over: its names are")

    def __contains__(self, x):
        return is_name(x) and x in self.words

    def __len__(self):
        return len(self.words)

    def drop(self, name):
        """Takes the word under a name away."""
        check_known(name, self.words)
        for index, claim in enumerate(self.claims):
            if name in names_of(claim):
                raise InUse(index)
        self.lead_to({other: self.words[other] for other in self.words if other != name}, self.claims)

    def claim(self, claim):
        """Makes a claim more, behind the others."""
        if not is_book_claim(claim):
            raise InvalidClaim(claim)
        for name in names_of(claim):
            check_known(name, self.words)
        self.lead_to(self.words, self.claims + (claim,))

    def lift(self, index):
        """Takes a claim away."""
        check_index(index, len(self.claims))
        self.lead_to(self.words, self.claims[:index] + self.claims[index + 1:])

    def undo(self):
        """Takes back the last change."""
        if not self.past:
            raise NothingToUndo()
        words, claims = self.past[-1]
        self.show(words, claims, self.past[:-1])

    def do_all(self, *deeds, watch=None):
        """Does several changes or none, calling a function with the book behind each one; tells their number."""
        check_deeds(deeds)
        with self.trial():
            for deed in deeds:
                self.do(deed)
                if watch is not None:
                    watch(self)
            words, claims, past = self.words, self.claims, self.past
        # Here all went well: an error would have left the book as it was.
        self.show(words, claims, past)
        return len(deeds)

    def do(self, deed):
        """Does what has the form of a deed."""
        if deed[0] == "set":
            self[deed[1]] = deed[2]
        elif deed[0] == "drop":
            self.drop(deed[1])
        elif deed[0] == "claim":
            self.claim(deed[1])
        else:
            self.lift(deed[1])

    def trial(self):
        """For a `with` statement, at the end of which the book is as it was."""
        return BookTrial(self)

    def tried(self, action):
        """Calls a function with the book within a trial, and returns what it returns."""
        with self.trial() as book:
            return action(book)


class KeptBook:
    """What a book showed when the rows of a trial began, and what was kept for the rows around these."""

    def __init__(self, book, around):
        self.words = book.words
        self.names = book.names
        self.claims = book.claims
        self.past = book.past
        self.changes = book.changes
        self.around = around


class BookTrial:
    """Rows of a program at the end of which a book is as it was; the same one may stand within itself."""

    def __init__(self, book):
        self.book = book
        self.kept = None

    def __enter__(self):
        self.kept = KeptBook(self.book, self.kept)
        return self.book

    def __exit__(self, kind, value, trace):
        self.book.words = self.kept.words
        self.book.names = self.kept.names
        self.book.claims = self.kept.claims
        self.book.past = self.kept.past
        self.book.changes = self.kept.changes
        self.kept = self.kept.around


def check_known(name, words):
    """Raises an error for what is none of the names with a word."""
    if not is_name(name) or name not in words:
        raise UnknownName(name)


def check_deeds(deeds):
    """Raises an error for the first one of some values that has not the form of a deed."""
    for index, deed in enumerate(deeds):
        if not is_deed(deed):
            raise InvalidDeeds(index)


def is_deed(value):
    """Whether it has the form of a deed."""
    if not isinstance(value, tuple) or not value or not isinstance(value[0], str):
        return False
    return value[0] in PARTS_OF_DEEDS and len(value) == PARTS_OF_DEEDS[value[0]]
