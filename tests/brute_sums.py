"""What the document says of turns, strings, counts and sums of shapes, done in the plainest way."""

from collections import Counter
from fractions import Fraction
from functools import lru_cache
from itertools import combinations, permutations, product

from tests import brute


def rows_of(letters):
    """The rows of a table with letters under their boxes."""
    many = len({row for row, _ in letters})
    return tuple(tuple(letters[box] for box in sorted(letters) if box[0] == row) for row in range(many))


def toggle(rows, k):
    """A table toggled, letter by letter."""
    letters = brute.letters_of(rows)
    loose = []
    for (row, column), letter in letters.items():
        if letter == k and letters.get((row + 1, column)) != k + 1:
            loose.append((row, column))
        if letter == k + 1 and letters.get((row - 1, column)) != k:
            loose.append((row, column))
    changed = dict(letters)
    for wanted in range(len(rows)):
        here = sorted(box for box in loose if box[0] == wanted)
        many = len([box for box in here if letters[box] == k + 1])
        for at, box in enumerate(here):
            changed[box] = k if at < many else k + 1
    return rows_of(changed)


def promote(rows, most):
    """A table promoted: the ones taken out, the holes slid in, all made less by one, the greatest letter put."""
    letters = brute.letters_of(rows)
    boxes = sorted(letters)
    ones = [box for box in boxes if letters[box] == 1]
    letters = {box: letter for box, letter in letters.items() if letter != 1}
    for hole in reversed(ones):
        letters, _ = brute.slide(letters, hole, 1)
    return rows_of({box: letters.get(box, most + 1) - 1 for box in boxes})


def free(word, k):
    """The places of the free k and of the free k + 1: neighbours that match are struck again and again."""
    left = [place for place, letter in enumerate(word) if letter in (k, k + 1)]
    at = 0
    while at + 1 < len(left):
        if word[left[at]] == k + 1 and word[left[at + 1]] == k:
            del left[at:at + 2]
            at = 0
        else:
            at += 1
    return [place for place in left if word[place] == k], [place for place in left if word[place] == k + 1]


def changed(word, place, letter):
    return word[:place] + (letter,) + word[place + 1:]


def raised(word, k):
    """None if it cannot be raised."""
    _, upper = free(word, k)
    return changed(word, min(upper), k) if upper else None


def lowered(word, k):
    """None if it cannot be lowered."""
    lower, _ = free(word, k)
    return changed(word, max(lower), k + 1) if lower else None


def web(word, most):
    """All words that come of raising and lowering below a letter, one by one."""
    found, waiting = {word}, [word]
    while waiting:
        now = waiting.pop()
        for k in range(1, most):
            for behind in (raised(now, k), lowered(now, k)):
                if behind is not None and behind not in found:
                    found.add(behind)
                    waiting.append(behind)
    return found


def is_ballot(word):
    """Whether each end has at least as many k as k + 1."""
    for place in range(len(word)):
        end = word[place:]
        if any(end.count(k) < end.count(k + 1) for k in range(1, 12)):
            return False
    return True


def growths(shape):
    """All growths of a shape, ascending."""
    told = []
    for rows in brute.standard_tables(shape):
        where = {letter: row for row, line in enumerate(rows) for letter in line}
        told.append(tuple(where[letter] for letter in sorted(where)))
    return sorted(told)


def amounts_of(rows, many):
    letters = [letter for row in rows for letter in row]
    return tuple(letters.count(letter) for letter in range(1, many + 1))


def matrices(rows, columns, most):
    """How many matrices of numbers up to the greatest one have these sums."""
    count = 0
    for flat in product(range(most + 1), repeat=rows_times(rows, columns)):
        lines = [flat[at * len(columns):(at + 1) * len(columns)] for at in range(len(rows))]
        fits = [sum(line) for line in lines] == list(rows)
        count += fits and [sum(line[at] for line in lines) for at in range(len(columns))] == list(columns)
    return count


def rows_times(rows, columns):
    return len(rows) * len(columns)


def hangs_together(some):
    """Whether boxes hang together over sides."""
    some = set(some)
    reached, waiting = set(), [min(some)]
    while waiting:
        row, column = box = waiting.pop()
        if box in some and box not in reached:
            reached.add(box)
            waiting += [(row + 1, column), (row - 1, column), (row, column + 1), (row, column - 1)]
    return reached == some


@lru_cache(maxsize=None)
def ribbons(shape, size):
    """The pairs of what is left and the height, found among all lots of boxes."""
    told = []
    for some in combinations(sorted(brute.boxes(shape)), size):
        lot = set(some)
        square = any({(row, column), (row + 1, column), (row, column + 1), (row + 1, column + 1)} <= lot for row, column in lot)
        left = brute.shape_of_boxes(brute.boxes(shape) - lot)
        if left is not None and not square and hangs_together(lot):
            told.append((left, len({row for row, _ in lot}) - 1))
    return tuple(sorted(told))


def character(shape, cycle):
    """The character, by plain recursion."""
    if not shape:
        return 1
    return sum((-1) ** height * character(left, cycle[1:]) for left, height in ribbons(shape, cycle[0]))


def cycle_shape(order):
    """The lengths of the cycles of an order."""
    left, lengths = set(order), []
    while left:
        letter, long = min(left), 0
        while letter in left:
            left.discard(letter)
            letter, long = order[letter - 1], long + 1
        lengths.append(long)
    return tuple(sorted(lengths, reverse=True))


def ballot_fillings(outer, inner, amounts):
    """The rows of all ballot fillings, found among all ways to put the letters into the boxes."""
    letters = [k for k, many in enumerate(amounts, start=1) for _ in range(many)]
    wide = [outer[row] - (inner[row] if row < len(inner) else 0) for row in range(len(outer))]
    found = set()
    for filling in set(permutations(letters)):
        rows, at = [], 0
        for many in wide:
            rows.append(filling[at:at + many])
            at += many
        if brute.is_skew(inner, tuple(rows)) and is_ballot(sum(reversed(rows), ())):
            found.add(tuple(rows))
    return sorted(found)


def hives(first, second, third):
    """All hives, found among all rows of numbers with these sides."""
    n = max(1, len(first), len(second), len(third))
    if sum(first) + sum(second) != sum(third):
        return []
    sides = {}
    for i in range(n + 1):
        sides[i, 0] = sum(first[:i])
        sides[0, i] = sum(third[:i])
        sides[n - i, i] = sum(first) + sum(second[:i])
    inside = [(i, j) for i in range(n + 1) for j in range(n - i + 1) if (i, j) not in sides]
    found = []
    for numbers in product(range(-1, sum(third) + 2), repeat=len(inside)):
        h = dict(sides)
        h.update(zip(inside, numbers))
        if keeps_bounds(h, n):
            found.append(tuple(tuple(h[i, j] for j in range(n - i + 1)) for i in range(n + 1)))
    return sorted(found)


def keeps_bounds(h, n):
    for i in range(n - 1):
        for j in range(n - 1 - i):
            if h[i + 1, j] + h[i, j + 1] < h[i, j] + h[i + 1, j + 1]:
                return False
            if h[i + 1, j + 1] + h[i, j + 1] < h[i + 1, j] + h[i, j + 2]:
                return False
            if h[i + 1, j + 1] + h[i + 1, j] < h[i, j + 1] + h[i + 2, j]:
                return False
    return True


# Polynomials: the exponents of the variables, with their numbers.


def times(first, second):
    told = Counter()
    for powers, number in first.items():
        for others, factor in second.items():
            told[tuple(map(sum, zip(powers, others)))] += number * factor
    return without_zeros(told)


def plus(first, second, factor=1):
    told = Counter(first)
    for powers, number in second.items():
        told[powers] += number * factor
    return without_zeros(told)


def without_zeros(some):
    return Counter({powers: number for powers, number in some.items() if number})


@lru_cache(maxsize=None)
def shape_polynomial(shape, many):
    return Counter(amounts_of(rows, many) for rows in brute.tables(shape, many))


@lru_cache(maxsize=None)
def basis_polynomial(basis, shape, many):
    """What a shape stands for in a basis, in so many variables."""
    if basis == "shapes":
        return shape_polynomial(shape, many)
    if basis == "monomials":
        if len(shape) > many:
            return Counter()
        return Counter(set(permutations(shape + (0,) * (many - len(shape)))))
    told = Counter({(0,) * many: 1})
    for part in shape:
        if basis == "rows":
            told = times(told, shape_polynomial((part,), many))
        elif basis == "columns":
            told = times(told, shape_polynomial((1,) * part, many))
        else:
            told = times(told, Counter(tuple(part * (at == own) for at in range(many)) for own in range(many)))
    return told


def polynomial(basis, terms, many):
    """What terms stand for in a basis."""
    told = Counter()
    for shape, (upper, lower) in terms:
        told = plus(told, basis_polynomial(basis, shape, many), Fraction(upper, lower))
    return told


def value_of(some, numbers):
    """What a polynomial is at these numbers, as a pair."""
    total = Fraction(0)
    for powers, number in some.items():
        worth = Fraction(number)
        for own, power in zip(numbers, powers):
            worth *= own ** power
        total += worth
    return total.numerator, total.denominator
