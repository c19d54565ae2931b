"""What the document says of sorting, marks, patterns and hidden words, done in the plainest way."""

from functools import lru_cache
from itertools import product

from tests import brute, brute_sums


def exchange(order, k):
    order = list(order)
    order[k - 1], order[k] = order[k], order[k - 1]
    return tuple(order)


def order_by(row, size):
    order = tuple(range(1, size + 1))
    for k in row:
        order = exchange(order, k)
    return order


def inversions(order):
    return sum(order[i] > order[j] for j in range(len(order)) for i in range(j))


@lru_cache(maxsize=None)
def rows_by_order(size):
    """For each order of a size its reduced rows: of all words, those as long as the order has inversions."""
    found, longest = {}, size * (size - 1) // 2
    waiting = [((), tuple(range(1, size + 1)))]
    while waiting:
        row, order = waiting.pop()
        if len(row) == inversions(order):
            found.setdefault(order, []).append(row)
        if len(row) < longest:
            waiting += [(row + (k,), exchange(order, k)) for k in range(1, size)]
    return {order: sorted(rows) for order, rows in found.items()}


@lru_cache(maxsize=None)
def reduced_count(order):
    """How many reduced rows there are, counted by their last letters."""
    last = [k for k in range(1, len(order)) if order[k - 1] > order[k]]
    return sum(reduced_count(exchange(order, k)) for k in last) if last else 1


def braids(row):
    """The braids of a word: a dict of what each place leads to."""
    found = {}
    for p in range(len(row) - 1):
        a, b = row[p], row[p + 1]
        if abs(a - b) > 1:
            found[p] = row[:p] + (b, a) + row[p + 2:]
        if p + 2 < len(row) and abs(a - b) == 1 and row[p + 2] == a:
            found[p] = row[:p] + (b, a, b) + row[p + 3:]
    return found


def put_sorted(rows, x):
    """The rows of a table into which a letter has been put sorted, and the box that is new."""
    rows = [list(row) for row in rows]
    for at, row in enumerate(rows):
        greater = [letter for letter in row if letter > x]
        if not greater:
            row.append(x)
            return tuple(map(tuple, rows)), (at, len(row) - 1)
        y = greater[0]
        if x in row:
            x = x + 1
        else:
            row[row.index(y)] = x
            x = y
    rows.append([x])
    return tuple(map(tuple, rows)), (len(rows) - 1, 0)


def sorted_pair(row):
    """The rows of both sorted tables."""
    first, second = (), {}
    for k, letter in enumerate(row, start=1):
        first, box = put_sorted(first, letter)
        second[box] = k
    return first, brute_sums.rows_of(second)


def columns(rows):
    """The rows of a table with its columns as rows."""
    return brute_sums.rows_of({(column, row): letter for (row, column), letter in brute.letters_of(rows).items()})


def mirrored(word, k):
    lower, upper = brute_sums.free(word, k)
    for at, place in enumerate(lower + upper):
        word = brute_sums.changed(word, place, k if at < len(upper) else k + 1)
    return word


def scarce(word):
    return [k for k in range(1, 12) if word.count(k) < word.count(k + 1)]


def settled(word):
    """The settled word, the greatest letters mirrored first."""
    while scarce(word):
        word = mirrored(word, scarce(word)[-1])
    return word


def walk(word):
    """The rounds and the marks of a settled word, place by place to the left."""
    left = {place: letter for place, letter in enumerate(word)}
    rounds, marks = [], {}
    while left:
        place, mark, lot = max(place for place, letter in left.items() if letter == 1), 0, []
        while True:
            letter = left.pop(place)
            lot.append(place)
            marks[place] = mark
            if letter + 1 not in left.values():
                break
            while left.get(place) != letter + 1:
                place -= 1
                if place < 0:
                    place, mark = len(word) - 1, mark + 1
        rounds.append(tuple(lot))
    return tuple(rounds), tuple(marks[place] for place in range(len(word)))


def charge(word):
    return sum(walk(settled(word))[1])


def tables_with(shape, amounts):
    """The rows of all tables of a shape with amounts, letter by letter from the greatest one."""
    amounts = tuple(amounts)
    if not amounts:
        return [()] if not shape else []
    found = []
    for less in product(*[range(part + 1) for part in shape]):
        strip = sum(shape) - sum(less) == amounts[-1] and all(low >= high for low, high in zip(less, shape[1:]))
        if strip and list(less) == sorted(less, reverse=True):
            for rows in tables_with(tuple(part for part in less if part), amounts[:-1]):
                rows = list(rows) + [()] * (len(shape) - len(rows))
                grown = [row + (len(amounts),) * (wide - len(row)) for row, wide in zip(rows, shape)]
                found.append(tuple(grown))
    return found


def mark_numbers(shape, amounts):
    charges = [charge(sum(reversed(rows), ())) for rows in tables_with(shape, amounts)]
    return tuple(charges.count(number) for number in range(max(charges, default=-1) + 1))


def pattern_of(rows, most):
    """The pattern of a table: the rows of its parts, with zeros."""
    told = []
    for letter in range(1, most + 1):
        wide = [len([other for other in row if other <= letter]) for row in rows] + [0] * letter
        told.append(tuple(wide[:letter]))
    return tuple(told)


def fillings(hidden):
    choices = [[element] if isinstance(element, int) else list(element) for element in hidden]
    return sorted(product(*choices))
