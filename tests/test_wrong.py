"""Wrong values for each argument of each function, and several wrong ones at once ([3])."""

import unittest
from copy import deepcopy
from fractions import Fraction

from cushionshots import apart, balls, cones, errors, hits, places, pockets, rounds
from cushionshots.errors import ShotError
from tests.quick import Watched

T, S = (4, 2), (1, 0, 1, 1)


class Odd:
    """A value of a kind that the package does not know."""


class Same:
    """A value that says to be equal to everything."""

    def __eq__(self, other):
        return True

    def __hash__(self):
        return hash("W")


ODD = [
    None, True, False, 0.5, 1.0, 2j, "", "W ", "1", b"W", b"", [], {}, set(), frozenset(), (), (None,), ((),), ("W",),
    Odd(), Odd, Same(), len, Fraction(1, 2), range(2), float("nan"), float("inf"), ..., [None], [()], ["W"], {"W": 1},
]
NO_INTEGERS = ODD + [(1,), [1], "WE", (1, 1)]


def each_with(good, wrong):
    """The good tuple with each of its items replaced by each of the wrong values."""
    return [good[:at] + (value,) + good[at + 1:] for at in range(len(good)) for value in wrong]


NO_ITEMS = [None, True, False, 1.0, 0.0, "1", (1,), [1], Fraction(1), Same()]

TABLES = ODD + each_with(T, NO_ITEMS) + [
    4, (4,), (4, 2, 1), [4, 2], "42", "4x2", (0, 2), (4, 0), (-4, 2), (4, -2), (0, 0), {4: 2}, {4, 2}, (T,),
]
NO_SHOTS = ODD + each_with(S, NO_ITEMS) + each_with((0, 0, 0, 1), NO_ITEMS) + [
    1, (1,), (1, 0, 1), (1, 0, 1, 1, 1), [1, 0, 1, 1], "1011", (-1, 0, 1, 1), (1, -1, 1, 1), (1, 0, 0, 0),
    (0, 0, 0, 0), (T, S), (4, 2),
]
OFF_THE_TABLE = [(5, 0, 1, 1), (1, 3, 1, 1), (2, 4, 1, 1)]
SHOTS = NO_SHOTS + OFF_THE_TABLE
FRACTIONS = ODD + each_with((1, 2), NO_ITEMS) + [
    1, 0, -1, (1,), (1, 1, 1), [1, 1], [1, 2], "1/2", (1, 0), (0, 0), (0, 2), (0, -1), (2, 2), (2, 4), (-2, 4),
    (1, -1), (-1, -1), (1, -2), (10 ** 40, 10), {1: 2}, {1, 2},
]
FROM_1 = NO_INTEGERS + [0, -1, -(10 ** 40), (T,)]
FROM_0 = NO_INTEGERS + [-1, -2, -(10 ** 40), (T,)]
CUSHIONS = ODD + [
    0, 1, "w", "e", "X", "WE", "ES", "SN", "WS", "WESN", "W ", " W", "W\n", "west", ("W", "E"), {"W"}, b"N", "0",
]
SPOTS = ODD + each_with((1, 1), NO_ITEMS) + [
    1, (1,), (1, 1, 1), [1, 1], (-1, 0), (0, -1), (5, 0), (0, 3), (2, 4), (1, 1, 1, 1), {1: 1},
]
BOXES = ODD + each_with((0, 1, 0, 1), NO_ITEMS) + [
    1, (0, 1, 0), (0, 1, 0, 1, 0), [0, 1, 0, 1], (1, 0, 0, 1), (0, 1, 1, 0), (-1, 1, 0, 1), (0, 1, -1, 1),
    (0, 5, 0, 1), (0, 1, 0, 3), (5, 5, 0, 1), (0, 1, 3, 3), (0, 2, 0, 4), (1, 1), ((0, 1), (0, 1)),
]
STRETCHES = ODD + each_with(("W", 0, 1), NO_ITEMS) + [
    ("W",), ("W", 0), ("W", 0, 1, 1), ["W", 0, 1], ("w", 0, 1), ("X", 0, 1), ("WE", 0, 1), ("", 0, 1), (0, 0, 1),
    ("W", 1, 0), ("S", 4, 3), ("W", -1, 1), ("N", -1, 1), ("W", 0, 3), ("E", 0, 3), ("E", 3, 3), ("S", 0, 5),
    ("N", 0, 5), ("N", 5, 5), ("S", -2, -1), (0, 1), "W01", (["W"], 0, 1), ({}, 0, 1), (None, None, None),
]
GOOD_STRETCH = ("N", 0, 4)
LISTS = [one for one in ODD if one != []] + [
    GOOD_STRETCH, (GOOD_STRETCH,), {GOOD_STRETCH}, {GOOD_STRETCH: 1}, "WESN", 0, [GOOD_STRETCH, None], [[GOOD_STRETCH]],
    [list(GOOD_STRETCH)], iter([GOOD_STRETCH]),
] + [[GOOD_STRETCH, one] for one in STRETCHES] + [[one, GOOD_STRETCH] for one in STRETCHES]

# Spots on the table that are not inside, too.
NO_INSIDES = SPOTS + [(0, 1), (4, 1), (1, 0), (1, 2), (0, 0), (4, 2), (-1, 1), (1, -1), (5, 1), (1, 3), (2.0, 1)]
NO_CUSHION_LISTS = ODD + [("N",), ("N", "E"), {"N"}, {"N": 1}, "N", "NE", 0, iter(["N"]), [["N"]], ["NE"], ["n"]] + [
    told for one in CUSHIONS for told in ([one, "N"], ["N", one])
]
NO_CUSHION_LISTS = [one for one in NO_CUSHION_LISTS if one != ["W"]]
OTHER_S = (1, 0, 1, 2)
NO_SHOT_LISTS = ODD + [
    (S, OTHER_S), {S, OTHER_S}, {S: 1, OTHER_S: 2}, S, [S], "WESN", 0, [[S, OTHER_S]], [list(S), OTHER_S], [[S], S],
    iter([S, OTHER_S]),
] + [told for one in SHOTS for told in ([one, S], [S, OTHER_S, one], [one])]

TABLE = ("table", T, TABLES, errors.InvalidTable)
SHOT = ("shot", S, SHOTS, errors.InvalidShot)
TIME = ("time", (7, 1), FRACTIONS, errors.InvalidTime)
OTHER = ("other", (3, 0, -1, 1), SHOTS, errors.InvalidShot)
INSIDE = ("spot", (1, 1), NO_INSIDES, errors.InvalidSpot)
COMING = ("cushions", ["N", "E"], NO_CUSHION_LISTS, errors.InvalidCushions)
STRETCH = ("stretch", GOOD_STRETCH, STRETCHES, errors.InvalidStretch)

# For each function its arguments in their order: name, good value, wrong values, error.
FUNCTIONS = [
    (places.folded, [
        ("side", 4, FROM_1, errors.InvalidSide), ("number", (-1, 2), FRACTIONS, errors.InvalidTime),
    ]),
    (places.place_at, [TABLE, SHOT, TIME]),
    (places.way_at, [TABLE, SHOT, TIME]),
    (places.shot_at, [TABLE, SHOT, TIME]),
    (places.scaled, [TABLE, SHOT, ("many", 3, FROM_1, errors.InvalidNumber)]),
    (places.crossed, [TABLE, SHOT]),
    (hits.count_hits, [TABLE, SHOT, TIME]),
    (hits.nth_hit, [TABLE, SHOT, ("index", 5, FROM_0, errors.InvalidIndex)]),
    (hits.hits, [TABLE, SHOT]),
    (hits.hit_words, [TABLE, SHOT, ("many", 5, FROM_0, errors.InvalidNumber)]),
    (hits.count_cushion, [TABLE, SHOT, ("cushion", "S", CUSHIONS, errors.InvalidCushion), TIME]),
    (rounds.round_time, [TABLE, SHOT]),
    (rounds.round_hits, [TABLE, SHOT]),
    (rounds.corner_hit, [TABLE, ("shot", (1, 1, 1, 1), SHOTS, errors.InvalidShot)]),
    (balls.first_meeting, [TABLE, SHOT, OTHER]),
    (balls.are_together, [TABLE, SHOT, OTHER]),
    (balls.count_meetings, [TABLE, SHOT, OTHER, TIME]),
    (cones.cone, [TABLE, INSIDE, COMING]),
    (cones.direction_for, [TABLE, INSIDE, COMING]),
    (cones.words, [TABLE, INSIDE, ("many", 3, FROM_1, errors.InvalidNumber)]),
    (cones.count_words, [TABLE, INSIDE, ("many", 3, FROM_1, errors.InvalidNumber)]),
    (apart.first_unlike, [TABLE, SHOT, ("other", OTHER_S, SHOTS, errors.InvalidShot)]),
    (apart.telling, [TABLE, ("shots", [S, OTHER_S], NO_SHOT_LISTS, errors.InvalidShots)]),
    (pockets.first_at, [TABLE, SHOT, ("spot", (3, 0), SPOTS, errors.InvalidSpot)]),
    (pockets.first_in_box, [TABLE, SHOT, ("box", (2, 3, 0, 1), BOXES, errors.InvalidBox)]),
    (pockets.first_in_stretch, [TABLE, SHOT, STRETCH]),
    (pockets.count_in_stretch, [TABLE, SHOT, STRETCH, TIME]),
    (pockets.first_pocket, [TABLE, SHOT, ("stretches", [GOOD_STRETCH], LISTS, errors.InvalidStretches)]),
]


def answer(function, *values, **named):
    """What a call gives; of a generator the first values."""
    told = function(*values, **named)
    if function is hits.hits:
        return [next(told) for _ in range(5)]
    return told


class WrongTest(Watched):
    def assert_error(self, error, function, values):
        try:
            told = answer(function, *values)
        except ShotError as caught:
            self.assertIs(type(caught), error, (function.__name__, values))
        else:
            self.fail((function.__name__, values, told))

    def test_each_argument_wrong(self):
        for function, arguments in FUNCTIONS:
            for at, (_, _, wrongs, error) in enumerate(arguments):
                for wrong in wrongs:
                    values = [argument[1] for argument in arguments]
                    values[at] = wrong
                    self.assert_error(error, function, values)

    def test_several_wrong_at_once(self):
        for function, arguments in FUNCTIONS:
            for at, (_, _, wrongs, error) in enumerate(arguments):
                for later in range(at + 1, len(arguments)):
                    for wrong in wrongs[::5]:
                        for other in arguments[later][2][::9]:
                            values = [argument[1] for argument in arguments]
                            values[at], values[later] = wrong, other
                            self.assert_error(error, function, values)
                            values[at + 1:] = [None] * (len(arguments) - at - 1)
                            self.assert_error(error, function, values)

    def test_shots_are_held_against_their_own_table(self):
        for function, arguments in FUNCTIONS:
            if len(arguments) > 1 and arguments[1][0] == "shot":
                rest = [argument[1] for argument in arguments[2:]]
                self.assert_error(errors.InvalidShot, function, [(2, 4), (3, 0, 1, 1)] + rest)
                self.assert_error(errors.InvalidShot, function, [(1, 1), (0, 2, 1, 1)] + rest)

    def test_stretches_are_held_against_the_side_along_their_cushion(self):
        for cushion, good, wrong in (("W", 2, 3), ("E", 2, 3), ("S", 4, 5), ("N", 4, 5)):
            for function, rest in ((pockets.first_in_stretch, []), (pockets.count_in_stretch, [(1, 1)])):
                answer(function, T, S, (cushion, good, good), *rest)
                self.assert_error(errors.InvalidStretch, function, [T, S, (cushion, good, wrong)] + rest)
            answer(pockets.first_pocket, T, S, [(cushion, 0, good)])
            self.assert_error(errors.InvalidStretches, pockets.first_pocket, [T, S, [(cushion, 0, wrong)]])

    def test_always_together_behind_every_wrong_argument(self):
        for wrong in FRACTIONS:
            self.assert_error(errors.InvalidTime, balls.count_meetings, [T, S, S, wrong])
        for wrong in SHOTS:
            self.assert_error(errors.InvalidShot, balls.count_meetings, [T, S, wrong, (1, 1)])
            self.assert_error(errors.InvalidShot, balls.count_meetings, [T, wrong, S, None])
        for time in ((0, 1), (7, 2), (-1, 1)):
            self.assert_error(errors.AlwaysTogether, balls.count_meetings, [T, S, S, time])
            self.assert_error(errors.AlwaysTogether, balls.count_meetings, [T, (0, 1, 1, 1), (0, 1, -1, 1), time])

    def test_tables_with_a_side_of_1_have_no_spot_inside(self):
        for table in ((1, 1), (1, 7), (7, 1)):
            for spot in ((0, 0), (1, 1), (0, 1), (1, 0)):
                self.assert_error(errors.InvalidSpot, cones.cone, [table, spot, ["N"]])
                self.assert_error(errors.InvalidSpot, cones.direction_for, [table, spot, []])
                self.assert_error(errors.InvalidSpot, cones.words, [table, spot, 0])
                self.assert_error(errors.InvalidSpot, cones.count_words, [table, spot, 1])

    def test_spots_are_held_against_their_own_table(self):
        self.assertEqual(cones.direction_for((2, 4), (1, 3), ["N"]), (0, 1))
        for spot in ((2, 1), (1, 4), (3, 1)):
            self.assert_error(errors.InvalidSpot, cones.cone, [(2, 4), spot, ["N"]])

    def test_turned(self):
        for wrong in NO_SHOTS:
            self.assert_error(errors.InvalidShot, places.turned, [wrong])
        for shot in OFF_THE_TABLE:
            self.assertEqual(places.turned(shot), shot[:2] + (-1, -1))


class WhetherTest(Watched):
    def test_is_table(self):
        for value in TABLES:
            self.assertIs(places.is_table(value), False, value)
        self.assertIs(places.is_table(value=T), True)

    def test_is_shot(self):
        for value in SHOTS:
            self.assertIs(places.is_shot(T, value), False, value)
        self.assertIs(places.is_shot(value=S, table=T), True)
        for table in TABLES:
            for value in (S, None):
                with self.assertRaises(errors.InvalidTable):
                    places.is_shot(table, value)

    def test_is_fraction(self):
        for value in FRACTIONS:
            self.assertIs(places.is_fraction(value), False, value)
        self.assertIs(places.is_fraction(value=(1, 2)), True)


class GoodTest(Watched):
    def test_by_position_and_by_name(self):
        for function, arguments in FUNCTIONS + [(places.turned, [("shot", S, None, None)])]:
            values = [argument[1] for argument in arguments]
            wanted = answer(function, *values)
            for split in range(len(arguments) + 1):
                named = {name: value for name, value, _, _ in reversed(arguments[split:])}
                self.assertEqual(answer(function, *values[:split], **named), wanted)

    def test_arguments_are_unchanged(self):
        stretches = [("W", 0, 1), ("N", 0, 2), ("N", 3, 3)]
        before = deepcopy(stretches)
        pockets.first_pocket(T, S, stretches)
        self.assertEqual(stretches, before)
        for function, arguments in FUNCTIONS:
            values = [argument[1] for argument in arguments]
            before = deepcopy(values)
            answer(function, *values)
            self.assertEqual(values, before)

    def test_later_answers_do_not_hang_on_changed_lists(self):
        told = hits.hit_words(T, S, 6)
        told[0] = "W"
        told.append("E")
        again = hits.hit_words(T, S, 6)
        self.assertEqual(again, ["N", "E", "S", "N", "W", "S"])
        self.assertIsNot(again, hits.hit_words(T, S, 6))
        self.assertIsNot(hits.hit_words(T, S, 0), hits.hit_words(T, S, 0))
        stretches = [("W", 0, 1)]
        self.assertEqual(pockets.first_pocket(T, S, stretches), (4, 0))
        stretches[0] = ("N", 0, 4)
        self.assertEqual(pockets.first_pocket(T, S, stretches), (0, 0))
        stretches.clear()
        self.assertIsNone(pockets.first_pocket(T, S, stretches))

    def test_the_same_answer_again(self):
        for function, arguments in FUNCTIONS:
            values = [argument[1] for argument in arguments]
            self.assertEqual(answer(function, *values), answer(function, *values))

    def test_kinds_of_answers(self):
        """Tuples and integers all through: no True for 1, no list for a tuple."""
        for function, arguments in FUNCTIONS:
            told = answer(function, *[argument[1] for argument in arguments])
            if function == balls.are_together:
                self.assertIs(told, False)
                continue
            kinds = [told] if function not in (hits.hits, hits.hit_words, cones.words) else list(told)
            if function == cones.words:
                self.assertEqual({type(one) for one in told}, {list})
                kinds = [letter for one in told for letter in one]
            while kinds:
                one = kinds.pop()
                if type(one) is tuple:
                    kinds.extend(one)
                else:
                    self.assertIn(type(one), (int, str), (function.__name__, told))


if __name__ == "__main__":
    unittest.main()
