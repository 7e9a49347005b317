"""Wrong values for each argument of each function, and several wrong ones at once ([3])."""

import unittest
from copy import deepcopy

from cushionshots import apart, balls, cones, errors, hits, places, pockets, rounds, texts
from cushionshots.errors import ShotError
from tests.quick import Watched
from tests.wrongs import BOXES, CUSHIONS, FRACTIONS, FROM_0, FROM_1, GOOD_STRETCH, LISTS, NO_CUSHION_LISTS, NO_INSIDES
from tests.wrongs import NO_SHOT_LISTS, NO_SHOTS, NO_TEXTS, OFF_THE_TABLE, OTHER_S, S, SHOTS, SPOTS, STRETCHES, T, TABLES

TABLE = ("table", T, TABLES, errors.InvalidTable)
SHOT = ("shot", S, SHOTS, errors.InvalidShot)
TIME = ("time", (7, 1), FRACTIONS, errors.InvalidTime)
OTHER = ("other", (3, 0, -1, 1), SHOTS, errors.InvalidShot)
INSIDE = ("spot", (1, 1), NO_INSIDES, errors.InvalidSpot)
COMING = ("cushions", ["N", "E"], NO_CUSHION_LISTS, errors.InvalidCushions)
STRETCH = ("stretch", GOOD_STRETCH, STRETCHES, errors.InvalidStretch)

# For each function its arguments in their order: name, good value, wrong values, error.
FUNCTIONS = [
    (places.folded, [
        ("side", 4, FROM_1, errors.InvalidSide), ("number", (-1, 2), FRACTIONS, errors.InvalidTime),
    ]),
    (places.place_at, [TABLE, SHOT, TIME]),
    (places.way_at, [TABLE, SHOT, TIME]),
    (places.shot_at, [TABLE, SHOT, TIME]),
    (places.scaled, [TABLE, SHOT, ("many", 3, FROM_1, errors.InvalidNumber)]),
    (places.crossed, [TABLE, SHOT]),
    (hits.count_hits, [TABLE, SHOT, TIME]),
    (hits.nth_hit, [TABLE, SHOT, ("index", 5, FROM_0, errors.InvalidIndex)]),
    (hits.hits, [TABLE, SHOT]),
    (hits.hit_words, [TABLE, SHOT, ("many", 5, FROM_0, errors.InvalidNumber)]),
    (hits.count_cushion, [TABLE, SHOT, ("cushion", "S", CUSHIONS, errors.InvalidCushion), TIME]),
    (rounds.round_time, [TABLE, SHOT]),
    (rounds.round_hits, [TABLE, SHOT]),
    (rounds.corner_hit, [TABLE, ("shot", (1, 1, 1, 1), SHOTS, errors.InvalidShot)]),
    (balls.first_meeting, [TABLE, SHOT, OTHER]),
    (balls.are_together, [TABLE, SHOT, OTHER]),
    (balls.count_meetings, [TABLE, SHOT, OTHER, TIME]),
    (cones.cone, [TABLE, INSIDE, COMING]),
    (cones.direction_for, [TABLE, INSIDE, COMING]),
    (cones.words, [TABLE, INSIDE, ("many", 3, FROM_1, errors.InvalidNumber)]),
    (cones.count_words, [TABLE, INSIDE, ("many", 3, FROM_1, errors.InvalidNumber)]),
    (apart.first_unlike, [TABLE, SHOT, ("other", OTHER_S, SHOTS, errors.InvalidShot)]),
    (apart.telling, [TABLE, ("shots", [S, OTHER_S], NO_SHOT_LISTS, errors.InvalidShots)]),
    (pockets.first_at, [TABLE, SHOT, ("spot", (3, 0), SPOTS, errors.InvalidSpot)]),
    (pockets.first_in_box, [TABLE, SHOT, ("box", (2, 3, 0, 1), BOXES, errors.InvalidBox)]),
    (pockets.first_in_stretch, [TABLE, SHOT, STRETCH]),
    (pockets.count_in_stretch, [TABLE, SHOT, STRETCH, TIME]),
    (pockets.first_pocket, [TABLE, SHOT, ("stretches", [GOOD_STRETCH], LISTS, errors.InvalidStretches)]),
    (texts.format_table, [TABLE]),
    (texts.format_shot, [("shot", S, NO_SHOTS, errors.InvalidShot)]),
    (texts.format_cushions, [COMING]),
    (texts.parse_table, [("text", "4x2", NO_TEXTS, errors.InvalidText)]),
    (texts.parse_shot, [("text", "1 0 1 1", NO_TEXTS, errors.InvalidText)]),
    (texts.parse_cushions, [("text", "N E", NO_TEXTS, errors.InvalidText)]),
]


def answer(function, *values, **named):
    """What a call gives; of a generator the first values."""
    told = function(*values, **named)
    if function is hits.hits:
        return [next(told) for _ in range(5)]
    return told


class WrongTest(Watched):
    def assert_error(self, error, function, values):
        try:
            told = answer(function, *values)
        except ShotError as caught:
            self.assertIs(type(caught), error, (function.__name__, values))
        else:
            self.fail((function.__name__, values, told))

    def test_each_argument_wrong(self):
        for function, arguments in FUNCTIONS:
            for at, (_, _, wrongs, error) in enumerate(arguments):
                for wrong in wrongs:
                    values = [argument[1] for argument in arguments]
                    values[at] = wrong
                    self.assert_error(error, function, values)

    def test_several_wrong_at_once(self):
        for function, arguments in FUNCTIONS:
            for at, (_, _, wrongs, error) in enumerate(arguments):
                for later in range(at + 1, len(arguments)):
                    for wrong in wrongs[::5]:
                        for other in arguments[later][2][::9]:
                            values = [argument[1] for argument in arguments]
                            values[at], values[later] = wrong, other
                            self.assert_error(error, function, values)
                            values[at + 1:] = [None] * (len(arguments) - at - 1)
                            self.assert_error(error, function, values)

    def test_shots_are_held_against_their_own_table(self):
        for function, arguments in FUNCTIONS:
            if len(arguments) > 1 and arguments[1][0] == "shot":
                rest = [argument[1] for argument in arguments[2:]]
                self.assert_error(errors.InvalidShot, function, [(2, 4), (3, 0, 1, 1)] + rest)
                self.assert_error(errors.InvalidShot, function, [(1, 1), (0, 2, 1, 1)] + rest)

    def test_stretches_are_held_against_the_side_along_their_cushion(self):
        for cushion, good, wrong in (("W", 2, 3), ("E", 2, 3), ("S", 4, 5), ("N", 4, 5)):
            for function, rest in ((pockets.first_in_stretch, []), (pockets.count_in_stretch, [(1, 1)])):
                answer(function, T, S, (cushion, good, good), *rest)
                self.assert_error(errors.InvalidStretch, function, [T, S, (cushion, good, wrong)] + rest)
            answer(pockets.first_pocket, T, S, [(cushion, 0, good)])
            self.assert_error(errors.InvalidStretches, pockets.first_pocket, [T, S, [(cushion, 0, wrong)]])

    def test_always_together_behind_every_wrong_argument(self):
        for wrong in FRACTIONS:
            self.assert_error(errors.InvalidTime, balls.count_meetings, [T, S, S, wrong])
        for wrong in SHOTS:
            self.assert_error(errors.InvalidShot, balls.count_meetings, [T, S, wrong, (1, 1)])
            self.assert_error(errors.InvalidShot, balls.count_meetings, [T, wrong, S, None])
        for time in ((0, 1), (7, 2), (-1, 1)):
            self.assert_error(errors.AlwaysTogether, balls.count_meetings, [T, S, S, time])
            self.assert_error(errors.AlwaysTogether, balls.count_meetings, [T, (0, 1, 1, 1), (0, 1, -1, 1), time])

    def test_tables_with_a_side_of_1_have_no_spot_inside(self):
        for table in ((1, 1), (1, 7), (7, 1)):
            for spot in ((0, 0), (1, 1), (0, 1), (1, 0)):
                self.assert_error(errors.InvalidSpot, cones.cone, [table, spot, ["N"]])
                self.assert_error(errors.InvalidSpot, cones.direction_for, [table, spot, []])
                self.assert_error(errors.InvalidSpot, cones.words, [table, spot, 0])
                self.assert_error(errors.InvalidSpot, cones.count_words, [table, spot, 1])

    def test_spots_are_held_against_their_own_table(self):
        self.assertEqual(cones.direction_for((2, 4), (1, 3), ["N"]), (0, 1))
        for spot in ((2, 1), (1, 4), (3, 1)):
            self.assert_error(errors.InvalidSpot, cones.cone, [(2, 4), spot, ["N"]])

    def test_turned(self):
        for wrong in NO_SHOTS:
            self.assert_error(errors.InvalidShot, places.turned, [wrong])
        for shot in OFF_THE_TABLE:
            self.assertEqual(places.turned(shot), shot[:2] + (-1, -1))


class WhetherTest(Watched):
    def test_is_table(self):
        for value in TABLES:
            self.assertIs(places.is_table(value), False, value)
        self.assertIs(places.is_table(value=T), True)

    def test_is_shot(self):
        for value in SHOTS:
            self.assertIs(places.is_shot(T, value), False, value)
        self.assertIs(places.is_shot(value=S, table=T), True)
        for table in TABLES:
            for value in (S, None):
                with self.assertRaises(errors.InvalidTable):
                    places.is_shot(table, value)

    def test_is_fraction(self):
        for value in FRACTIONS:
            self.assertIs(places.is_fraction(value), False, value)
        self.assertIs(places.is_fraction(value=(1, 2)), True)


class GoodTest(Watched):
    def test_by_position_and_by_name(self):
        for function, arguments in FUNCTIONS + [(places.turned, [("shot", S, None, None)])]:
            values = [argument[1] for argument in arguments]
            wanted = answer(function, *values)
            for split in range(len(arguments) + 1):
                named = {name: value for name, value, _, _ in reversed(arguments[split:])}
                self.assertEqual(answer(function, *values[:split], **named), wanted)

    def test_arguments_are_unchanged(self):
        stretches = [("W", 0, 1), ("N", 0, 2), ("N", 3, 3)]
        before = deepcopy(stretches)
        pockets.first_pocket(T, S, stretches)
        self.assertEqual(stretches, before)
        for function, arguments in FUNCTIONS:
            values = [argument[1] for argument in arguments]
            before = deepcopy(values)
            answer(function, *values)
            self.assertEqual(values, before)

    def test_later_answers_do_not_hang_on_changed_lists(self):
        told = hits.hit_words(T, S, 6)
        told[0] = "W"
        told.append("E")
        again = hits.hit_words(T, S, 6)
        self.assertEqual(again, ["N", "E", "S", "N", "W", "S"])
        self.assertIsNot(again, hits.hit_words(T, S, 6))
        self.assertIsNot(hits.hit_words(T, S, 0), hits.hit_words(T, S, 0))
        stretches = [("W", 0, 1)]
        self.assertEqual(pockets.first_pocket(T, S, stretches), (4, 0))
        stretches[0] = ("N", 0, 4)
        self.assertEqual(pockets.first_pocket(T, S, stretches), (0, 0))
        stretches.clear()
        self.assertIsNone(pockets.first_pocket(T, S, stretches))

    def test_the_same_answer_again(self):
        for function, arguments in FUNCTIONS:
            values = [argument[1] for argument in arguments]
            self.assertEqual(answer(function, *values), answer(function, *values))

    def test_kinds_of_answers(self):
        """Tuples and integers all through: no True for 1, no list for a tuple."""
        for function, arguments in FUNCTIONS:
            told = answer(function, *[argument[1] for argument in arguments])
            if function == balls.are_together:
                self.assertIs(told, False)
                continue
            kinds = [told] if function not in (hits.hits, hits.hit_words, cones.words, texts.parse_cushions) else list(told)
            if function == cones.words:
                self.assertEqual({type(one) for one in told}, {list})
                kinds = [letter for one in told for letter in one]
            while kinds:
                one = kinds.pop()
                if type(one) is tuple:
                    kinds.extend(one)
                else:
                    self.assertIn(type(one), (int, str), (function.__name__, told))


if __name__ == "__main__":
    unittest.main()
