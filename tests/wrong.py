"""Values that are wrong in the place of an argument, kind by kind, and a look for the errors that they raise."""

from itertools import product

from wordshapes.skews import Skew
from wordshapes.tables import Table

HUGE = 10 ** 5000
TABLE = Table(((1, 1, 3), (2,)))
SKEW = Skew((1,), ((2,), (1, 3)))
DEEP = ((((((((((1,),),),),),),),),),)


class Stranger:
    """Of a class that the package does not know; it says that it is equal to everything."""

    rows = ((1,),)
    shape = (1,)
    word = (1,)
    inner = ()

    def __eq__(self, other):
        return True

    def __len__(self):
        return 1

    def __getitem__(self, at):
        return 1


def a_function(value):
    return value


NO_NUMBERS = [
    None, True, False, "", "1", "-", b"", b"\x01", [], [1], {}, {1: 1}, set(), {1}, frozenset({1}), range(2), 1j,
    (), (1,), (1, 1), ((1,),), TABLE, SKEW, Table, a_function, Stranger(), object(), Ellipsis, NotImplemented, DEEP,
]
NO_TUPLES = [
    None, True, False, "", "1", "2.1", "-", b"", b"\x01", b"\x02\x01", [], [1], [2, 1], [[1]], [(1,)], {}, {1: 1}, {(1,): 1},
    set(), {1}, frozenset({1}), range(2), range(1, 3), 0, 1, 2, -1, HUGE, -HUGE, 1j, SKEW, Skew, Table, a_function,
    Stranger(), object(), Ellipsis, NotImplemented, "a" * 4000, "2.1\n", [None], ["1"],
]
NO_LETTERS_IN = [
    (0,), (13,), (-1,), (HUGE,), (-HUGE,), (True,), (False,), (None,), ("1",), (b"\x01",), ([1],), ((1,),), ((),), ({},),
    (1, 2, "3"), (1, True), (2, 1, 0), (13, 1), (1, 2, None), (Stranger(),), (1j,), DEEP,
]

WORDS = NO_TUPLES + NO_LETTERS_IN + [TABLE, (1,) * 13, tuple(range(1, 14)), (1,) * 10000, ((1, 1), (2,))]


def numbers(low, high):
    """What is no integer from the one number to the other one."""
    return NO_NUMBERS + [value for value in (low - 1, high + 1, -100, 100, HUGE, -HUGE) if not low <= value <= high]


LETTERS = numbers(1, 12)


def shapes(most):
    """What is no shape of so many boxes at most."""
    return NO_TUPLES + [
        TABLE, (0,), (2, 0), (0, 2), (1, 2), (3, 1, 2), (2, -1), (-1,), (True,), (2, True), (False,), (None,), (2, None),
        ("2",), (2, "1"), ((2,),), ([2],), ({},), (2, (1,)), (HUGE,), (-HUGE,), (HUGE, 1), (1, HUGE), (1j,), (Stranger(),),
        (most + 1,), (1,) * (most + 1), (most, 1), (1,) * 10000, (2, 1, 1, 0), DEEP,
    ]


# Shapes are amounts, and so are words.
AMOUNTS = NO_TUPLES + [
    TABLE, (-1,), (2, -1), (1, 0, -1), (True,), (False,), (1, True), (1, False), (None,), (1, None), ("1",), (1, "1"), ((1,),), (1, (1,)),
    ((),), ([1],), ({},), (b"\x01",), (-HUGE,), (1, -HUGE), (1j,), (Stranger(),), (1, Stranger()), (0,) * 13, (1,) * 13, (0,) * 10000, DEEP,
]

NO_FRACTIONS = [value for value in NO_NUMBERS if not (isinstance(value, tuple) and value == (1, 1))] + [
    0, 1, -1, HUGE, (0, 0), (1, 0), (0, 2), (2, 2), (2, 4), (6, 4), (-2, 4), (1, -1), (-1, -1), (1, -2), (True, 1), (1, True), (False, 1),
    (0, True), (1, 2, 3), (1, None), (None, 1), ("1", 1), (1, "1"), "12", b"\x01\x02", [1, 2], ((1, 2),), ((1,), (2,)), (1, (2,)), {1: 2, 3: 4},
    (HUGE, HUGE), (HUGE, -1), (1, -HUGE), (HUGE, 0), (2 * HUGE, 2), (1j, 1), (1, 1j), (Stranger(), 1), (1, Stranger()), ([1], 2),
]
ONE = (1, 1)
TERMS = NO_TUPLES + [
    (1,), (1, 2), ((),), ((1,),), ((1,), ONE), (((1,), ONE, ONE),), (((1,),),), ([(1,), ONE],), ([((1,), ONE)],), ((ONE, (1,)),), ("12",), (None,),
    (((1,), (0, 1)),), (((1,), ONE), ((2,), (0, 1))), (((2,), ONE), ((1,), ONE)), (((1,), ONE), ((1,), ONE)), (((1,), ONE), ((1,), (2, 1))),
    (((1,), ONE), ((), ONE)), (((2,), ONE), ((1, 1), ONE)), (((9,), ONE),), (((1,) * 9, ONE),), (((8, 1), ONE),), (((1, 2), ONE),),
    (((0,), ONE),), (((1, 0), ONE),), (((True,), ONE),), (((2, True), ONE),), (([1], ONE),), (([], ONE),), ((None, ONE),), ((1, ONE),),
    (("1", ONE),), ((HUGE, ONE),), (((HUGE,), ONE),), (((-1,), ONE),), (((1,), 1),), (((1,), ONE),) * 5000, ((TABLE, ONE),), (TABLE,),
    {((1,), ONE): 1}, [((1,), ONE)], (((1,), ONE), None), (((1,), ONE), ((2,), 1)), (((1,), ONE), ((2,),)), (((1,), ONE), "ab"), DEEP,
] + [(((1,), value),) for value in NO_FRACTIONS] + [(((), ONE), ((1,), value)) for value in NO_FRACTIONS]

NO_TABLES = NO_TUPLES + [(), (1,), ((1, 1), (2,)), ((1,),), TABLE.rows, TABLE.word, DEEP]
NO_SKEWS = [value for value in NO_TABLES if value is not SKEW] + [TABLE, (SKEW.inner, SKEW.rows)]

# Nearly a table, or not even that.
ROWS = [value for value in NO_TUPLES if value is not TABLE] + [
    TABLE, (1,), (1, 2), ((),), ((1,), ()), ((), (1,)), ((1,), (2, 3)), ((2, 1),), ((1, 3, 2),), ((1, 2), (1,)), ((1, 2), (2, 2)),
    ((2,), (1,)), ([1, 1], [2]), ([1],), ((1,), [2]), ["1"], ("1",), ("12",), (b"\x01",), ((1,),) * 2, ((0,),), ((13,),), ((True,),),
    ((1, True),), ((None,),), (None,), ((1, None),), (("1",),), (((1,),),), ((1,) * 13,), tuple((k,) for k in range(1, 14)),
    ((1,) * 7, (2,) * 6), ((HUGE,),), ((-HUGE,),), ((1, HUGE),), ((-1,),), ({},), ({1: 1},), ((),) * 5000, (TABLE,), DEEP,
]

PATTERNS = NO_TUPLES + [
    TABLE, (), (1,), (1, 2), ((),), ((1, 1),), ((1,), (1,)), ((1,), (1, 0, 0)), ((1,), (1, 0), (1, 0)), ((13,),), ((-1,),), ((True,),), ((False,),),
    ((None,),), (None,), (["1"],), ("1",), (b"\x01",), ((1,), "10"), ((1,), b"\x01\x00"), ((1,), [1, 0]), [(1,), (1, 0)], ([1], [1, 0]), ((1,), (0, 0)),
    ((1,), (0, 1)), ((1,), (2, 2)), ((0,), (1, 1)), ((3,), (2, 1)), ((1,), (True, 0)), ((1,), (1, False)), ((1,), (1, -1)), ((7,), (7, 6)),
    ((12,), (12, 1)), ((2,), (2, 1), (2, 0, 0)), ((2,), (2, 1), (1, 1, 0)), ((2,), (3, 1), (3, 2, 1), (2, 2, 1, 0)), ((HUGE,),), ((-HUGE,),),
    ((1,), (HUGE, 0)), ((1,), (1, -HUGE)), ((1,), {1: 0, 0: 1}), ({0: 1},), ((1j,),), ((Stranger(),),), (Stranger(),), ((1,), Stranger()), (TABLE,),
    tuple((0,) * many for many in range(1, 14)), tuple((0,) * many for many in range(0, 4)), tuple((0,) * many for many in range(2, 5)),
    tuple((0,) * many for many in range(3, 0, -1)), ((0,),) * 5000, ((1,) * 5000,), (((1,),),), DEEP,
]
HIDDEN = NO_TUPLES + [
    TABLE, (0,), (13,), (-1,), (HUGE,), (True,), (False,), (None,), ("1",), (b"\x01\x02",), ("12",), ([1, 2],), ({1: 2, 2: 3},), ((),), ((1,),), ((12,),),
    ((1, 1),), ((2, 1),), ((1, 2, 2),), ((1, 3, 2),), ((0, 1),), ((12, 13),), ((1, True),), ((False, 1),), ((1, None),), ((1, "2"),), ((1, (2, 3)),),
    (((1, 2),),), (1, (1, 2), 0), (1, (1, 2), (2,)), (1,) * 13, ((1, 2),) * 13, (1,) * 10000, ((1, HUGE),), ((-HUGE, 1),), (tuple(range(1, 14)),),
    (tuple(range(12)),), (1j,), ((1, 1j),), (Stranger(),), ((1, Stranger()),), (1, 2, TABLE), (SKEW,), DEEP,
]

NO_TEXTS = [value for value in NO_TUPLES if not isinstance(value, str)] + [(), (1,), TABLE, ("write 1",), ["write 1"], b"write 1", b"erase", DEEP]
NAMES = NO_TEXTS + [
    "", "A", "aB", "a1", "1", "a b", " a", "a ", "a\n", "\n", "a-b", "a.b", "abcdefghi", "toolongname", "a" * 4000, "{a}", "~", "a_b", "_", "-", "=",
    ("a",), ["a"], b"a", {"a": 1}, {"a"}, ("a", "b"),
]

CLAIMS = NO_TUPLES + [
    TABLE, (), (1,), ("alike",), ("alike", "v"), ("alike", "v", "w", "v"), ("web", "v"), ("web",), ("heavier", "v"), ("heavier", "v", "w", 1),
    ("shape",), ("shape", "v"), ("shape", "v", (2, 1), 1), ("highest",), ("highest", "v", "w"), ("highest", "v", ()), ("rising", "v"), ("rising", "v", 1),
    ("rising", "v", 1, 2, 3), ("falling", "v", 1), ("falling",), ("Alike", "v", "w"), ("alik", "v", "w"), ("", "v", "w"), ("grows", "v", (2, 1)),
    ("lighter", "v", "w"), ("joins", "v", "w"), ("slides", "v"), (None, "v", "w"), (b"alike", "v", "w"), (1, "v", "w"), (("alike",), "v", "w"),
    (["alike"], "v", "w"), ({}, "v", "w"), (Stranger(), "v", "w"), ["alike", "v", "w"], ["highest", "v"], {"highest": "v"}, "highest v",
] + [("shape", "v", value) for value in shapes(12)] + [
    (sort, "v", value, 2) for sort in ("rising", "falling") for value in numbers(1, 12)
] + [(sort, "v", 1, value) for sort in ("rising", "falling") for value in numbers(0, 12)]
DEEDS = [value for value in CLAIMS if value not in ([], [1])] + [
    ("set",), ("set", "v"), ("set", "v", (1,), (2,)), ("drop",), ("drop", "v", "w"), ("claim",), ("claim", ("highest", "v"), 1), ("lift",), ("lift", 0, 1),
    ("Set", "v", (1,)), ("put", "v", (1,)), ("undo",), ("", "v"), ("claim", "highest", "v"), (None, "v"), (b"set", "v", (1,)), ["set", "v", (1,)],
    ["drop", "v"], {"drop": 1, "v": 2}, "drop v", (("drop",), "v"), (["drop"], "v"), (Stranger(), "v"), (0, 1), ("set", ("v", (1,))), ("tried", "v"),
]


def raised(action, *given, **named):
    """What calling a function raises; None if nothing."""
    try:
        action(*given, **named)
    except Exception as error:  # whatever it is, a test looks at it
        return error
    return None


def look_at(test, error, wanted, value):
    """Whether an error is just of the wanted class, with the very value that was given."""
    test.assertIs(error.__class__, wanted, (error.__class__, "for a value of", value.__class__))
    test.assertIs(error.given, value)


def look_for_errors(test, action, *parameters):
    """Gives wrong values for one argument and for several at once, by place and by name.

    A parameter is (name, right value, [(error, wrong values), ..]).
    """
    names = [name for name, _, _ in parameters]
    right = [value for _, value, _ in parameters]
    test.assertIsNone(raised(action, *right))
    for at, (_, _, errors) in enumerate(parameters):
        for wanted, values in errors:
            for value in values:
                given = right[:at] + [value] + right[at + 1:]
                look_at(test, raised(action, *given), wanted, value)
                look_at(test, raised(action, **dict(zip(names, given))), wanted, value)
    for faulty in product([False, True], repeat=len(parameters)):
        if sum(faulty) > 1:
            look_at_several(test, action, parameters, faulty)


def look_at_several(test, action, parameters, faulty):
    """Wrong values in several places: the error of the first of them has to come."""
    choices = [
        [pair for error, values in errors for pair in product([error], samples(values))] if wrong else [(None, right)]
        for wrong, (_, right, errors) in zip(faulty, parameters)
    ]
    first = faulty.index(True)
    for chosen in product(*choices):
        given = [value for _, value in chosen]
        look_at(test, raised(action, *given), chosen[first][0], given[first])


def samples(values):
    """A few of many values."""
    return values if len(values) < 5 else values[:2] + values[len(values) // 2:len(values) // 2 + 2] + values[-1:]


def same_by_name(test, action, **named):
    """Whether a call tells the same by place, by name and by names in another order, and what it tells."""
    told = action(*named.values())
    test.assertEqual(action(**named), told)
    test.assertEqual(action(**dict(reversed(list(named.items())))), told)
    return told
