"""What the document says, done in the plainest way, to be held against what the package does."""

from functools import lru_cache
from itertools import product


def parted(size, most=None):
    """All shapes of a size, in any order."""
    if size == 0:
        return [()]
    most = size if most is None else most
    return [(part,) + rest for part in range(1, min(size, most) + 1) for rest in parted(size - part, part)]


def boxes(shape):
    return {(row, column) for row, wide in enumerate(shape) for column in range(wide)}


def shape_of_boxes(some):
    """The shape with these boxes, None if there is none."""
    rows = sorted({row for row, _ in some})
    shape = tuple(len([1 for row, _ in some if row == wanted]) for wanted in rows)
    return shape if is_shape(shape) and boxes(shape) == set(some) else None


def is_shape(parts):
    return all(part > 0 for part in parts) and list(parts) == sorted(parts, reverse=True)


def words(long, letters):
    """All words of a length with letters up to a number."""
    return list(product(range(1, letters + 1), repeat=long))


def letters_of(rows, inner=()):
    """The letters of a skew under their boxes."""
    holes = list(inner) + [0] * (len(rows) - len(inner))
    return {(row, holes[row] + at): letter for row, line in enumerate(rows) for at, letter in enumerate(line)}


def is_skew(inner, rows):
    """Whether rows of letters make a skew with an inner shape, box by box."""
    if len(rows) < len(inner):
        return False
    letters = letters_of(rows, inner)
    outer = boxes(inner) | set(letters)
    if len({row for row, _ in outer}) != len(rows) or (outer and shape_of_boxes(outer) is None):
        return False
    for (row, column), letter in letters.items():
        if letters.get((row, column + 1), 99) < letter or letters.get((row + 1, column), 99) <= letter:
            return False
    return len(letters) <= 12


def tables(shape, letters):
    """The rows of all tables of a shape with letters up to a number."""
    found = []
    for filling in words(sum(shape), letters):
        rows, at = [], 0
        for wide in shape:
            rows.append(filling[at:at + wide])
            at += wide
        if is_skew((), tuple(rows)):
            found.append(tuple(rows))
    return found


def standard_tables(shape):
    """The rows of all standard tables of a shape, built box by box."""
    if not shape:
        return [()]
    found = []
    for row, wide in enumerate(shape):
        if row + 1 == len(shape) or shape[row + 1] < wide:
            less = list(shape)
            less[row] -= 1
            for rows in standard_tables(tuple(part for part in less if part)):
                changed = list(rows) + [()] * (len(shape) - len(rows))
                changed[row] = changed[row] + (sum(shape),)
                found.append(tuple(changed))
    return found


@lru_cache(maxsize=None)
def standard_count(shape):
    """How many standard tables a shape has, counted by the box of the greatest letter."""
    counts = []
    for row in range(len(shape)):
        less = shape[:row] + (shape[row] - 1,) + shape[row + 1:]
        less = less[:-1] if less[-1] == 0 else less
        counts += [standard_count(less)] if is_shape(less) else []
    return sum(counts) if shape else 1


def put(rows, letter):
    """The rows of a table into which a letter has been put, and the box that is new."""
    rows = [list(row) for row in rows]
    for row, line in enumerate(rows):
        greater = [at for at, other in enumerate(line) if other > letter]
        if not greater:
            line.append(letter)
            return tuple(tuple(each) for each in rows), (row, len(line) - 1)
        line[greater[0]], letter = letter, line[greater[0]]
    rows.append([letter])
    return tuple(tuple(each) for each in rows), (len(rows) - 1, 0)


def table_of(word):
    rows = ()
    for letter in word:
        rows, _ = put(rows, letter)
    return rows


def moves(word):
    """The moves of a word: a dict of what each place leads to."""
    found = {}
    for k in range(len(word) - 2):
        u, v, w = word[k:k + 3]
        if v < u <= w or w < u <= v:
            found[k] = word[:k] + (u, w, v) + word[k + 3:]
        if u <= w < v or v <= w < u:
            assert k not in found
            found[k] = word[:k] + (v, u, w) + word[k + 3:]
    return found


def word_class(word):
    """All words to which moves lead."""
    found, waiting = {word}, [word]
    while waiting:
        for behind in moves(waiting.pop()).values():
            if behind not in found:
                found.add(behind)
                waiting.append(behind)
    return found


def rises(word, places):
    return all(word[low] <= word[high] for low, high in zip(places, places[1:]))


def falls(word, places):
    return all(word[low] > word[high] for low, high in zip(places, places[1:]))


def lots(word, fits):
    """All lots of places that fit, the empty one too."""
    found = [()]
    for place in range(len(word)):
        found += [lot + (place,) for lot in found if fits(word, lot + (place,))]
    return found


def best_total(word, many, fits):
    """The greatest number of places of so many lots without a common place, by a search through all of them."""
    masks = [sum(1 << place for place in lot) for lot in lots(word, fits)]
    reached = {0}
    for _ in range(many):
        reached = {done | mask for done in reached for mask in masks if not done & mask}
    return max(bin(mask).count("1") for mask in reached)


def slide(letters, hole, step):
    """Letters slid into an empty box, and the box that is empty at last; step 1 inward, -1 outward."""
    letters = dict(letters)
    while True:
        row, column = hole
        beside = letters.get((row, column + step))
        under = letters.get((row + step, column))
        if beside is None and under is None:
            return letters, hole
        vertical = beside is None or (under is not None and step * under <= step * beside)
        source = (row + step, column) if vertical else (row, column + step)
        letters[hole] = letters.pop(source)
        hole = source
