"""Claims for the checker and their papers, judged in the plainest way, and values bent in one place."""

from tests import brute, brute_more, brute_sums

LONG = 12


def is_row(value, low, high):
    """Whether it is a tuple of integers from the one number to the other one."""
    return type(value) is tuple and all(type(x) is int and low <= x <= high for x in value)


def is_word(value):
    return is_row(value, 1, 12) and len(value) <= LONG


def is_shape(value, most=LONG):
    return is_row(value, 1, most) and brute.is_shape(value) and sum(value) <= most


def is_skew(inner, rows):
    return is_shape(inner, 66) and type(rows) is tuple and all(is_row(row, 1, 12) for row in rows) and brute.is_skew(inner, rows)


def is_integer(value):
    return type(value) is int


def shape_of(word):
    return tuple(map(len, brute.table_of(word)))


def sums(shape):
    return [sum(shape[:k]) for k in range(1, LONG + 1)]


def is_heavier(shape, lower):
    return all(own >= other for own, other in zip(sums(shape), sums(lower)))


def top(word):
    """The highest word, the greatest letters first."""
    able = [k for k in range(11, 0, -1) if brute_sums.raised(word, k) is not None]
    return top(brute_sums.raised(word, able[0])) if able else word


def rectified(inner, rows):
    """The rows of the table of the word of the skew."""
    return brute.table_of(sum(reversed(rows), ()))


def outer_of(inner, rows):
    return tuple(map(sum, zip(list(inner) + [0] * (len(rows) - len(inner)), map(len, rows))))


def highest_rows(shape):
    """The rows of the table with a row of ones, then one of twos, and so on."""
    return tuple((row + 1,) * wide for row, wide in enumerate(shape))


def join_count(first, second, third):
    """How many tables of the first shape make, with the highest table of the second one, that of the third one."""
    long = max(len(second), len(third))
    amounts = [most - less for most, less in zip(third + (0,) * (long - len(third)), second + (0,) * (long - len(second)))]
    if min(amounts, default=0) < 0:
        return 0
    behind = sum(reversed(highest_rows(second)), ())
    words = [sum(reversed(rows), ()) for rows in brute_more.tables_with(first, amounts)]
    return len([word for word in words if brute.table_of(word + behind) == highest_rows(third)])


# What the claims say, whatever the papers are.


def is_claim(claim):
    """Whether any value is a claim for the checker."""
    if type(claim) is not tuple or not claim or type(claim[0]) is not str:
        return False
    parts = claim[1:]
    forms = {
        "alike": [is_word, is_word], "web": [is_word, is_word], "rising": [is_word, is_many, is_integer], "falling": [is_word, is_many, is_integer],
        "heavier": [is_shape, is_shape], "lighter": [is_shape, is_shape], "joins": [is_shape, is_shape, is_shape, is_integer],
        "slides": [any_value, any_value, any_value], "grows": [is_word, is_shape],
    }
    if claim[0] not in forms or len(parts) != len(forms[claim[0]]):
        return False
    if not all(form(part) for form, part in zip(forms[claim[0]], parts)):
        return False
    return claim[0] != "slides" or (is_skew(parts[0], parts[1]) and is_skew((), parts[2]))


def is_many(value):
    return is_integer(value) and 1 <= value <= LONG


def any_value(value):
    return True


def is_true(claim):
    """Whether a claim for the checker is true."""
    sort, parts = claim[0], claim[1:]
    if sort == "alike":
        return brute.table_of(parts[0]) == brute.table_of(parts[1])
    if sort == "web":
        return top(parts[0]) == top(parts[1])
    if sort in ("rising", "falling"):
        return brute.best_total(parts[0], parts[1], brute.rises if sort == "rising" else brute.falls) == parts[2]
    if sort in ("heavier", "lighter"):
        return sum(parts[0]) == sum(parts[1]) and is_heavier(*parts) == (sort == "heavier")
    if sort == "joins":
        return 0 <= parts[3] <= join_count(*parts[:3])
    if sort == "slides":
        return rectified(parts[0], parts[1]) == parts[2]
    return shape_of(parts[0]) == parts[1]


# What a paper has to be.


def judged(claim, paper):
    """Whether a value is a paper for another one, a claim."""
    if not is_claim(claim):
        return False
    judge = {
        "alike": alike, "web": web, "rising": rising, "falling": falling, "heavier": heavier, "lighter": lighter, "joins": joins, "slides": slides,
        "grows": grows,
    }[claim[0]]
    return judge(*claim[1:], paper)


def alike(word, other, paper):
    if not is_row(paper, 0, 11):
        return False
    for place in paper:
        word = brute.moves(word).get(place) if word is not None else None
    return word == other


def web(word, other, paper):
    if type(paper) is not tuple or len(paper) != 2 or not all(is_row(part, 1, 11) for part in paper):
        return False
    for letter in paper[0]:
        word = brute_sums.raised(word, letter) if word is not None else None
    for letter in paper[1]:
        other = brute_sums.raised(other, letter) if other is not None else None
    return word is not None and word == other and brute_sums.is_ballot(word)


def rising(word, many, total, paper):
    return lots_and_cover(word, many, total, paper, brute.rises, brute.falls)


def falling(word, many, total, paper):
    return lots_and_cover(word, many, total, paper, brute.falls, brute.rises)


def lots_and_cover(word, many, total, paper, fits, against):
    if type(paper) is not tuple or len(paper) != 2 or any(type(lots) is not tuple for lots in paper):
        return False
    lots, cover = paper
    if not all(is_row(lot, 0, len(word) - 1) and list(lot) == sorted(set(lot)) for lot in lots + cover):
        return False
    if len(lots) != many or not all(fits(word, lot) for lot in lots) or not all(against(word, lot) and lot for lot in cover):
        return False
    used, covered = sorted(sum(lots, ())), sorted(sum(cover, ()))
    if len(set(used)) != len(used) or covered != list(range(len(word))):
        return False
    return len(used) == total == sum(min(len(lot), many) for lot in cover)


def heavier(shape, lower, paper):
    if type(paper) is not tuple or not paper or not all(is_shape(step) for step in paper):
        return False
    if paper[0] != shape or paper[-1] != lower:
        return False
    for step, behind in zip(paper, paper[1:]):
        more, less = brute.boxes(behind) - brute.boxes(step), brute.boxes(step) - brute.boxes(behind)
        if len(more) != 1 or len(less) != 1 or not min(more)[0] > min(less)[0]:
            return False
    return True


def lighter(shape, lower, paper):
    if not is_integer(paper) or sum(shape) != sum(lower):
        return False
    return paper in [k for k in range(1, LONG + 1) if sum(shape[:k]) < sum(lower[:k])]


def joins(first, second, third, many, paper):
    if type(paper) is not tuple or many != len(paper) or list(paper) != sorted_unlike(paper):
        return False
    for rows in paper:
        if not is_skew(first, rows) or outer_of(first, rows) != third:
            return False
        word = sum(reversed(rows), ())
        if tuple(word.count(k) for k in range(1, len(second) + 1)) != second or len(word) != sum(second) or not brute_sums.is_ballot(word):
            return False
    return True


def sorted_unlike(paper):
    try:
        return sorted(set(paper))
    except TypeError:
        return None


def slides(inner, rows, table, paper):
    if type(paper) is not tuple or not all(is_integer(row) for row in paper):
        return False
    holes, letters = brute.boxes(inner), brute.letters_of(rows, inner)
    for row in paper:
        wide = len([box for box in holes if box[0] == row])
        hole = (row, wide - 1)
        if not wide or (row + 1, wide - 1) in holes:
            return False
        holes.remove(hole)
        letters, _ = brute.slide(letters, hole, 1)
    return not holes and brute_sums.rows_of(letters) == table


def grows(word, shape, paper):
    order = sorted(range(len(word)), key=lambda place: (word[place], place))
    standing = [order.index(place) + 1 for place in range(len(word))]
    square = [
        tuple(shape_of([k for k in standing[:i] if k <= j]) for j in range(len(word) + 1))
        for i in range(len(word) + 1)
    ]
    return same(paper, tuple(square)) and square[-1][-1] == shape


def same(value, wanted):
    """Whether two values are equal, tuples being tuples and integers being integers."""
    if type(value) is not type(wanted):
        return False
    if type(value) is tuple:
        return len(value) == len(wanted) and all(same(own, other) for own, other in zip(value, wanted))
    return value == wanted


# Values bent in one place.


def bent(value):
    """Values that differ from a value in one place."""
    if type(value) is int:
        return [value + 1, value - 1, -value, True, bool(value), str(value), (value,), None, 10 ** 30]
    if type(value) is str:
        return [value + "s", value[:-1], value.upper(), "", (value,), value.encode(), None, "alike", "heavier", "lighter"]
    if type(value) is not tuple:
        return [()]
    told = [list(value), value + (1,), value + ((),), value + value[-1:], (0,) + value, value[1:], value[:-1], value[::-1], (value,), None, {}]
    told += [value[:at] + value[at + 1:] for at in range(len(value))]
    told += [value[:at] + (value[at + 1], value[at]) + value[at + 2:] for at in range(len(value) - 1)]
    for at, part in enumerate(value):
        told += [value[:at] + (other,) + value[at + 1:] for other in bent(part)]
    return told
