"""Wrong values for the arguments of each class and of its methods, and several wrong ones at once ([3], [20] to [22])."""

import unittest
from copy import deepcopy

from cushionshots import errors
from cushionshots.errors import ShotError
from cushionshots.kinds import BoundedTable, CalmBoundedTable, CalmTable
from cushionshots.live import LiveTable
from cushionshots.objects import Ball
from tests.quick import Watched
from tests.slow_live import told_by
from tests.wrongs import FRACTIONS, FROM_0, GOOD_STRETCH, NO_POCKETS, NO_TEXTS, ODD, S, SHOTS, SPOTS, T, TABLES

KINDS = (LiveTable, CalmTable, BoundedTable, CalmBoundedTable)
TABLE = ("table", T, TABLES, errors.InvalidTable)
SHOT = ("shot", S, SHOTS, errors.InvalidShot)
POCKETS = ("pockets", (GOOD_STRETCH,), NO_POCKETS, errors.InvalidPockets)
MOST = ("most", 3, FROM_0, errors.InvalidNumber)

# For each class the arguments of its constructor in their order: name, good value, wrong values, error.
CLASSES = [
    (Ball, [TABLE, SHOT]),
    (LiveTable, [TABLE, POCKETS]),
    (CalmTable, [TABLE, POCKETS]),
    (BoundedTable, [TABLE, POCKETS, MOST]),
    (CalmBoundedTable, [TABLE, POCKETS, MOST]),
]
# For each method of all live tables its argument.
METHODS = [
    ("add", SHOT),
    ("roll", ("many", 5, FROM_0, errors.InvalidNumber)),
    ("take", ("number", 0, FROM_0 + [1, 2, 10 ** 40], errors.InvalidBall)),
]


class WrongTest(Watched):
    def assert_error(self, error, call, *values):
        with self.assertRaises(ShotError, msg=(call, values)) as caught:
            call(*values)
        self.assertIs(type(caught.exception), error, (call, values))

    def test_each_argument_of_a_constructor_wrong(self):
        for made, arguments in CLASSES:
            good = [argument[1] for argument in arguments]
            for at, (_, _, wrongs, error) in enumerate(arguments):
                for wrong in wrongs:
                    self.assert_error(error, made, *good[:at], wrong, *good[at + 1:])
                    # What stands behind it may be left out where it has a default value.
                    if made is not Ball:
                        self.assert_error(error, made, *good[:at], wrong)

    def test_several_wrong_at_once(self):
        for made, arguments in CLASSES:
            good = [argument[1] for argument in arguments]
            for at, (_, _, wrongs, error) in enumerate(arguments):
                for later in range(at + 1, len(arguments)):
                    for wrong in wrongs[::5]:
                        for other in arguments[later][2][::9]:
                            values = list(good)
                            values[at], values[later] = wrong, other
                            self.assert_error(error, made, *values)
                            values[at + 1:] = [None] * (len(arguments) - at - 1)
                            self.assert_error(error, made, *values)

    def test_each_argument_of_a_method_wrong(self):
        for kind in KINDS:
            live = kind(T, (GOOD_STRETCH,))
            live.add((0, 0, 1, 0))
            before = told_by(live)
            for name, (_, _, wrongs, error) in METHODS:
                for wrong in wrongs:
                    self.assert_error(error, getattr(live, name), wrong)
                    self.assert_error(error, live.try_changes, (name, wrong))
                    self.assert_error(error, live.try_changes, ("roll", 0), (name, wrong), None)
            for wrong in ODD:
                self.assert_error(errors.InvalidChange, live.try_changes, wrong)
                self.assert_error(errors.InvalidChange, live.try_changes, ("roll", 1), wrong, ("roll", -1))
                self.assert_error(errors.InvalidChange, live.try_changes, (wrong, S))
            self.assertEqual(told_by(live), before)

    def test_read_and_is_valid(self):
        for kind in KINDS:
            for wrong in NO_TEXTS:
                self.assert_error(errors.InvalidText, kind.read, wrong)
            for wrong in TABLES:
                self.assertIs(kind.is_valid(wrong), False)

    def test_balls(self):
        ball = Ball(T, S)
        for wrong in FRACTIONS:
            self.assert_error(errors.InvalidTime, ball, wrong)
        for wrong in ODD + SPOTS + SHOTS + TABLES:
            self.assert_error(errors.NotABall, lambda other: ball & other, wrong)
            self.assertIs(ball == wrong, False)
        for wrong in SPOTS:
            self.assertIs(wrong in ball, False)


class GoodTest(Watched):
    def test_by_position_and_by_name(self):
        for made, arguments in CLASSES:
            values = [argument[1] for argument in arguments]
            for split in range(len(arguments) + 1):
                named = {name: value for name, value, _, _ in reversed(arguments[split:])}
                told = made(*values[:split], **named)
                if made is Ball:
                    self.assertEqual(told, Ball(T, S))
                    continue
                self.assertEqual(told_by(told), told_by(made(*values)))
                self.assertEqual([told.add((2, 0, 0, 1)), told.roll(2)], [0, [0]])
        for kind in KINDS:
            live, other = kind(T), kind(T)
            for name, (parameter, value, _, _) in METHODS:
                self.assertEqual(getattr(live, name)(**{parameter: value}), getattr(other, name)(value))
                self.assertEqual(told_by(live), told_by(other))

    def test_arguments_are_unchanged(self):
        for kind in KINDS:
            arguments = [T, (GOOD_STRETCH, ("W", 0, 1))]
            changes = [("add", S), ("roll", 3), ("add", (0, 2, 1, 0)), ("take", 1)]
            before = deepcopy((arguments, changes))
            live = kind(*arguments)
            live.try_changes(*changes)
            for name, worth in changes:
                getattr(live, name)(worth)
            self.assertEqual((arguments, changes), before)

    def test_arguments_that_are_changed_later(self):
        for kind in KINDS:
            live = kind(T, (("W", 0, 2),))
            live.add(S)
            changes = [("roll", 7), ("roll", 1)]
            self.assertEqual(live.try_changes(*changes), [[0], []])
            changes.clear()
            told = live.roll(7)
            told.append(9)
            told[0] = 5
            self.assertEqual(live.fallen_now, (0,))
            live.undo()
            self.assertEqual(live.roll(7), [0])

    def test_kinds_of_answers(self):
        for kind in KINDS:
            live = kind(T, (("W", 0, 2),))
            told = [live.add(S), live.add((2, 1, 0, 1)), live.roll(7), live.take(1), live.undo(), live.try_changes(("roll", 1))]
            self.assertEqual([type(one) for one in told], [int, int, list, tuple, str, list])
            told = [live.balls_now, live.fallen_now, live.time_now, len(live), live.told_words()]
            self.assertEqual([type(one) for one in told], [tuple, tuple, int, int, list])
            for number, shot in live.balls_now:
                self.assertEqual([type(one) for one in (number, *shot)], [int] * 5)


if __name__ == "__main__":
    unittest.main()
