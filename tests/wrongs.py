"""Values of all kinds that are not what an argument has to be, for the tests of [3]."""

from fractions import Fraction

T, S = (4, 2), (1, 0, 1, 1)


class Odd:
    """A value of a kind that the package does not know."""


class Same:
    """A value that says to be equal to everything."""

    def __eq__(self, other):
        return True

    def __hash__(self):
        return hash("W")


ODD = [
    None, True, False, 0.5, 1.0, 2j, "", "W ", "1", b"W", b"", [], {}, set(), frozenset(), (), (None,), ((),), ("W",),
    Odd(), Odd, Same(), len, Fraction(1, 2), range(2), float("nan"), float("inf"), ..., [None], [()], ["W"], {"W": 1},
]
NO_INTEGERS = ODD + [(1,), [1], "WE", (1, 1)]


def each_with(good, wrong):
    """The good tuple with each of its items replaced by each of the wrong values."""
    return [good[:at] + (value,) + good[at + 1:] for at in range(len(good)) for value in wrong]


NO_ITEMS = [None, True, False, 1.0, 0.0, "1", (1,), [1], Fraction(1), Same()]

TABLES = ODD + each_with(T, NO_ITEMS) + [
    4, (4,), (4, 2, 1), [4, 2], "42", "4x2", (0, 2), (4, 0), (-4, 2), (4, -2), (0, 0), {4: 2}, {4, 2}, (T,),
]
NO_SHOTS = ODD + each_with(S, NO_ITEMS) + each_with((0, 0, 0, 1), NO_ITEMS) + [
    1, (1,), (1, 0, 1), (1, 0, 1, 1, 1), [1, 0, 1, 1], "1011", (-1, 0, 1, 1), (1, -1, 1, 1), (1, 0, 0, 0),
    (0, 0, 0, 0), (T, S), (4, 2),
]
OFF_THE_TABLE = [(5, 0, 1, 1), (1, 3, 1, 1), (2, 4, 1, 1)]
SHOTS = NO_SHOTS + OFF_THE_TABLE
FRACTIONS = ODD + each_with((1, 2), NO_ITEMS) + [
    1, 0, -1, (1,), (1, 1, 1), [1, 1], [1, 2], "1/2", (1, 0), (0, 0), (0, 2), (0, -1), (2, 2), (2, 4), (-2, 4),
    (1, -1), (-1, -1), (1, -2), (10 ** 40, 10), {1: 2}, {1, 2},
]
FROM_1 = NO_INTEGERS + [0, -1, -(10 ** 40), (T,)]
FROM_0 = NO_INTEGERS + [-1, -2, -(10 ** 40), (T,)]
CUSHIONS = ODD + [
    0, 1, "w", "e", "X", "WE", "ES", "SN", "WS", "WESN", "W ", " W", "W\n", "west", ("W", "E"), {"W"}, b"N", "0",
]
SPOTS = ODD + each_with((1, 1), NO_ITEMS) + [
    1, (1,), (1, 1, 1), [1, 1], (-1, 0), (0, -1), (5, 0), (0, 3), (2, 4), (1, 1, 1, 1), {1: 1},
]
BOXES = ODD + each_with((0, 1, 0, 1), NO_ITEMS) + [
    1, (0, 1, 0), (0, 1, 0, 1, 0), [0, 1, 0, 1], (1, 0, 0, 1), (0, 1, 1, 0), (-1, 1, 0, 1), (0, 1, -1, 1),
    (0, 5, 0, 1), (0, 1, 0, 3), (5, 5, 0, 1), (0, 1, 3, 3), (0, 2, 0, 4), (1, 1), ((0, 1), (0, 1)),
]
STRETCHES = ODD + each_with(("W", 0, 1), NO_ITEMS) + [
    ("W",), ("W", 0), ("W", 0, 1, 1), ["W", 0, 1], ("w", 0, 1), ("X", 0, 1), ("WE", 0, 1), ("", 0, 1), (0, 0, 1),
    ("W", 1, 0), ("S", 4, 3), ("W", -1, 1), ("N", -1, 1), ("W", 0, 3), ("E", 0, 3), ("E", 3, 3), ("S", 0, 5),
    ("N", 0, 5), ("N", 5, 5), ("S", -2, -1), (0, 1), "W01", (["W"], 0, 1), ({}, 0, 1), (None, None, None),
]
GOOD_STRETCH = ("N", 0, 4)
LISTS = [one for one in ODD if one != []] + [
    GOOD_STRETCH, (GOOD_STRETCH,), {GOOD_STRETCH}, {GOOD_STRETCH: 1}, "WESN", 0, [GOOD_STRETCH, None], [[GOOD_STRETCH]],
    [list(GOOD_STRETCH)], iter([GOOD_STRETCH]),
] + [[GOOD_STRETCH, one] for one in STRETCHES] + [[one, GOOD_STRETCH] for one in STRETCHES]

# Spots on the table that are not inside, too.
NO_INSIDES = SPOTS + [(0, 1), (4, 1), (1, 0), (1, 2), (0, 0), (4, 2), (-1, 1), (1, -1), (5, 1), (1, 3), (2.0, 1)]
NO_CUSHION_LISTS = ODD + [("N",), ("N", "E"), {"N"}, {"N": 1}, "N", "NE", 0, iter(["N"]), [["N"]], ["NE"], ["n"]] + [
    told for one in CUSHIONS for told in ([one, "N"], ["N", one])
]
NO_CUSHION_LISTS = [one for one in NO_CUSHION_LISTS if one != ["W"]]
OTHER_S = (1, 0, 1, 2)
NO_SHOT_LISTS = ODD + [
    (S, OTHER_S), {S, OTHER_S}, {S: 1, OTHER_S: 2}, S, [S], "WESN", 0, [[S, OTHER_S]], [list(S), OTHER_S], [[S], S],
    iter([S, OTHER_S]),
] + [told for one in SHOTS for told in ([one, S], [S, OTHER_S, one], [one])]

# What is no tuple of stretches; the empty tuple is one.
NO_POCKETS = [one for one in ODD if one != ()] + [
    [GOOD_STRETCH], {GOOD_STRETCH}, {GOOD_STRETCH: 1}, GOOD_STRETCH, "WESN", 0, ([GOOD_STRETCH],), (list(GOOD_STRETCH),),
    ((GOOD_STRETCH,),), iter((GOOD_STRETCH,)),
] + [(GOOD_STRETCH, one) for one in STRETCHES] + [(one, GOOD_STRETCH) for one in STRETCHES]
NO_TEXTS = [one for one in ODD if one != ""] + [0, 42, T, S, ("4", "2"), ["N", "E"], b"4x2", b"N", ("4x2",), ["4x2"]]
NO_TEXTS = NO_TEXTS + ["", " ", "4", "w", "N  E", "4X2", "4x2 ", " 4x2", "4x0", "1 0 1", "1 0 0 0", "-1 0 1 1", "1 0 1 01"]
