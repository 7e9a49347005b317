"""Live tables ([21])."""

import unittest
from random import Random

from cushionshots.errors import InvalidBall, InvalidChange, InvalidNumber, InvalidPockets, InvalidShot, InvalidTable
from cushionshots.errors import InvalidText, NothingToUndo, ShotError
from cushionshots.live import LiveTable
from cushionshots.places import shot_at
from cushionshots.pockets import count_in_stretch, first_pocket
from cushionshots.hits import nth_hit
from tests.quick import Watched
from tests.slow import some_shot
from tests.slow_live import SlowTable, outcome, some_call, some_changes, some_pockets, told_by

T, S = (4, 2), (1, 0, 1, 1)
EAST, NORTH = ("E", 0, 2), ("N", 0, 4)
NO_CHANGES = [
    None, True, False, 0, 1, "add", "roll", (), ("add",), ("roll",), ("add", S, 1), ("roll", 1, 1), ["roll", 1],
    ["add", S], ("undo",), ("undo", 0), ("undo", None), ("try_changes", ()), ("rolls", 1), ("Roll", 1), ("", 1),
    (None, 1), (True, 1), (0, 1), (["roll"], 1), (("roll",), 1), (b"roll", 1), {"roll": 1}, {"roll", 1}, S, T, len,
    (1, "roll"), iter(("roll", 1)), "ro", ("told_words", None),
]


class Same:
    """A value that says to be equal to everything."""

    def __eq__(self, other):
        return True

    def __hash__(self):
        return hash("add")


class LiveCase(Watched):
    def assert_refused(self, error, live, name, *worths):
        """A call that raises an error and changes nothing."""
        before = told_by(live)
        with self.assertRaises(ShotError, msg=(name, worths)) as caught:
            getattr(live, name)(*worths)
        self.assertIs(type(caught.exception), error, (name, worths))
        self.assertEqual(told_by(live), before)


class ExamplesTest(LiveCase):
    def test_example_of_section_10(self):
        live = LiveTable(T, (("W", 0, 1),))
        told = [live.add(S), live.add((3, 1, 0, 1)), live.roll(6), live.balls_now, live.roll(3), live.fallen_now]
        self.assertEqual(told, [0, 1, [], ((0, (1, 2, -1, -1)), (1, (3, 1, 0, -1))), [0], (0,)])

    def test_told_words_as_told(self):
        live = LiveTable(T)
        self.assertEqual(live.told_words(), ["balls 0", "fallen 0"])
        live.add(S)
        live.add(S)
        self.assertEqual(live.told_words(), ["balls 2", "fallen 0"])
        self.assertIsNot(live.told_words(), live.told_words())

    def test_from_the_start(self):
        for live in (LiveTable(T), LiveTable(T, ()), LiveTable(table=T, pockets=(EAST,)), LiveTable.read("4x2")):
            self.assertEqual(told_by(live), ((), (), 0, 0, ["balls 0", "fallen 0"]))
            self.assertIs(type(live.balls_now), tuple)
            self.assertIs(type(live.fallen_now), tuple)
            self.assertIs(type(live.time_now), int)

    def test_class_value_and_methods_of_the_class(self):
        self.assertEqual(LiveTable.EMPTY, ())
        self.assertIs(type(LiveTable.EMPTY), tuple)
        self.assertEqual(LiveTable(T).EMPTY, ())
        live = LiveTable.read("4x2")
        self.assertIs(type(live), LiveTable)
        self.assertEqual(live.add((4, 2, 1, 1)), 0)
        self.assert_refused(InvalidShot, live, "add", (5, 2, 1, 1))
        self.assert_refused(InvalidShot, live, "add", (4, 3, 1, 1))
        self.assertEqual(live.roll(100), [])
        self.assertEqual(told_by(LiveTable.read(table_text="2x4")), told_by(LiveTable((2, 4))))
        self.assertIs(type(live.read("1x1")), LiveTable)
        self.assertEqual(len(live), 2)
        for text in ("4X2", "", "4x", "4x0", None, T, 42, b"4x2", " 4x2"):
            with self.assertRaises(InvalidText):
                LiveTable.read(text)

    def test_is_valid(self):
        for value in (T, (1, 1), (10 ** 40, 3)):
            self.assertIs(LiveTable.is_valid(value), True)
            self.assertIs(LiveTable(T).is_valid(value=value), True)
        for value in (None, (4, 0), [4, 2], "4x2", (True, 2), (4, 2, 1), (), LiveTable(T), LiveTable, 4):
            self.assertIs(LiveTable.is_valid(value), False)

    def test_by_name(self):
        live = LiveTable(pockets=(("W", 0, 1),), table=T)
        self.assertEqual(live.add(shot=S), 0)
        self.assertEqual(live.roll(many=6), [])
        self.assertEqual(live.take(number=0), (1, 2, -1, -1))


class WrongTest(LiveCase):
    def test_constructor(self):
        for table in (None, (4, 0), [4, 2], "4x2", (4, 2, 1), (True, 2)):
            for pockets in ((), (EAST,), None, [EAST]):
                with self.assertRaises(InvalidTable):
                    LiveTable(table, pockets)
        for pockets in (
            None, [], [EAST], {}, EAST, ("E",), "", "E", 0, False, (EAST, None), (list(EAST),), (("E", 0, 3),),
            (("S", 0, 5),), (("E", 1, 0),), (("E", -1, 0),), (("e", 0, 1),), (("E", 0),), (("E", 0, True),), ((),),
            (EAST, EAST[:2]), {EAST}, {EAST: 1}, iter((EAST,)),
        ):
            with self.assertRaises(InvalidPockets, msg=repr(pockets)):
                LiveTable(T, pockets)

    def test_calls(self):
        live = LiveTable(T, (EAST,))
        live.add((0, 1, 1, 0))
        live.add(S)
        live.take(1)
        for shot in (None, (), T, (1, 0, 0, 0), (5, 0, 1, 1), (1, 3, 1, 1), [1, 0, 1, 1], (1, 0, True, 1), "1 0 1 1", 0, Same()):
            self.assert_refused(InvalidShot, live, "add", shot)
        for many in (None, True, False, -1, -(10 ** 10), 1.0, "1", (1, 1), [1], (1,), Same()):
            self.assert_refused(InvalidNumber, live, "roll", many)
        for number in (None, False, True, -1, 1, 2, 0.0, "0", (0,), [0], (0, (0, 1, 1, 0)), (0, 1, 1, 0), 10 ** 40, Same()):
            self.assert_refused(InvalidBall, live, "take", number)
        live.roll(4)
        self.assert_refused(InvalidBall, live, "take", 0)
        for number in (-1, 0, 1):
            self.assert_refused(InvalidBall, LiveTable(T), "take", number)

    def test_properties_are_only_read(self):
        live = LiveTable(T)
        for name in ("balls_now", "fallen_now", "time_now"):
            with self.assertRaises(AttributeError):
                setattr(live, name, 0)


class RollTest(LiveCase):
    def live(self, pockets, *shots):
        live = LiveTable(T, pockets)
        for shot in shots:
            live.add(shot)
        return live

    def test_falls_at_one_time_and_at_different_times(self):
        live = self.live((EAST,), (0, 1, 1, 0), (1, 1, 3, 0), (3, 1, 1, 0), (0, 0, 0, 1), (3, 1, 2, 0), (3, 0, 1, 0))
        self.assertEqual(live.roll(4), [4, 1, 2, 5, 0])
        self.assertEqual(live.fallen_now, (4, 1, 2, 5, 0))
        self.assertEqual(live.balls_now, ((3, (0, 0, 0, 1)),))
        self.assertEqual(live.told_words(), ["balls 1", "fallen 5"])

    def test_falls_of_several_calls_one_behind_the_other(self):
        live = self.live((EAST,), (0, 1, 1, 0), (1, 1, 3, 0), (3, 1, 1, 0), (0, 0, 0, 1), (3, 1, 2, 0), (3, 0, 1, 0))
        self.assertEqual([live.roll(1), live.roll(1), live.roll(1), live.roll(1)], [[4, 1, 2, 5], [], [], [0]])
        self.assertEqual(live.fallen_now, (4, 1, 2, 5, 0))
        self.assertEqual(live.time_now, 4)

    def test_times_that_are_no_integers(self):
        shots = [(0, 1, speed, 0) for speed in (5, 7, 9, 8, 7, 4, 3, 11)]
        live = self.live((EAST,), *shots)
        self.assertEqual(live.roll(1), [7, 2, 3, 1, 4, 0, 5])
        self.assertEqual(live.roll(1), [6])

    def test_at_the_very_end_of_a_roll(self):
        live = self.live((EAST,), (0, 1, 1, 0))
        self.assertEqual(live.roll(3), [])
        self.assertEqual(live.balls_now, ((0, (3, 1, 1, 0)),))
        self.assertEqual(live.roll(0), [])
        self.assertEqual(live.roll(1), [0])
        live = self.live((EAST,), (0, 1, 1, 0))
        self.assertEqual(live.roll(4), [0])
        live = self.live((EAST,), (0, 1, 3, 0))
        self.assertEqual([live.roll(1), live.roll(1)], [[], [0]])

    def test_at_a_corner(self):
        for pocket in (("E", 2, 2), ("N", 4, 4), ("E", 0, 2), ("N", 0, 4)):
            self.assertEqual(self.live((pocket,), (2, 0, 1, 1)).roll(2), [0])
        for pocket in (("E", 0, 1), ("N", 0, 3), ("W", 0, 2), ("S", 0, 4)):
            live = self.live((pocket,), (2, 0, 1, 1))
            self.assertEqual(live.roll(2), [])
            self.assertEqual(live.balls_now, ((0, (4, 2, -1, -1)),))

    def test_the_beginning_is_no_hit(self):
        live = self.live((EAST,), (4, 1, 1, 0), (4, 1, -1, 0), (4, 1, 0, 1))
        self.assertEqual([live.roll(0), live.roll(7), live.roll(1)], [[], [], [0, 1]])
        self.assertEqual(live.balls_now, ((2, (4, 1, 0, 1)),))
        live = self.live((NORTH,), (0, 0, 0, 1))
        self.assertEqual(live.roll(1), [])
        live.undo()
        self.assertEqual(live.roll(2), [0])

    def test_along_a_cushion_there_is_no_hit_at_it(self):
        live = self.live((("S", 0, 4),), (0, 0, 1, 0))
        self.assertEqual(live.roll(1000), [])
        live = self.live((("S", 0, 4), ("W", 0, 0)), (0, 0, 1, 0))
        self.assertEqual([live.roll(7), live.roll(1)], [[], [0]])

    def test_a_roll_of_0(self):
        live = self.live((EAST, NORTH), S, (4, 2, 1, 1), (3, 2, 1, 0), (0, 2, -1, 1))
        before = live.balls_now
        self.assertEqual(live.roll(0), [])
        self.assertEqual((live.time_now, live.fallen_now, len(live)), (0, (), 5))
        # The places stay, and the ways are those just behind the time.
        self.assertEqual([shot for _, shot in live.balls_now], [S, (4, 2, -1, -1), (3, 2, 1, 0), (0, 2, 1, -1)])
        self.assertEqual(live.undo(), "roll")
        self.assertEqual(live.balls_now, before)

    def test_without_balls_and_without_pockets(self):
        live = LiveTable(T, (EAST,))
        self.assertEqual([live.roll(5), live.time_now, len(live)], [[], 5, 1])
        live = self.live((), S, (0, 1, 1, 0))
        self.assertEqual([live.roll(1000), live.fallen_now, live.time_now], [[], (), 1000])
        self.assertEqual(live.balls_now, ((0, S), (1, (0, 1, 1, 0))))

    def test_rolls_of_ten_digits(self):
        chance = Random(91)
        fell = 0
        for _ in range(40):
            greatest = chance.choice((10, 1000, 10 ** 10))
            table = (chance.randint(1, greatest), chance.randint(1, greatest))
            pockets = some_pockets(chance, table, chance.randint(0, 3))
            shots = [some_shot(chance, table, chance.choice((3, greatest))) for _ in range(8)]
            live = LiveTable(table, pockets)
            for shot in shots:
                live.add(shot)
            many = chance.randint(0, 10 ** 10 - 1)
            told, staying = [], []
            for number, shot in enumerate(shots):
                pocket = first_pocket(table, shot, list(pockets))
                time = None if pocket is None else nth_hit(table, shot, pocket[0])[0]
                if time is None or time[0] > many * time[1]:
                    self.assertEqual([count_in_stretch(table, shot, one, (many, 1)) for one in pockets], [0] * len(pockets))
                    staying.append((number, shot_at(table, shot, (many, 1))))
                else:
                    told.append(number)
            self.assertEqual(sorted(live.roll(many)), told)
            self.assertEqual(live.balls_now, tuple(staying))
            fell += len(told)
        self.assertGreater(fell, 40)


class UndoTest(LiveCase):
    def test_every_kind_up_to_nothing(self):
        live = LiveTable(T, (EAST,))
        states = []
        for name, worth in (
            ("add", (1, 1, 0, 1)), ("add", (0, 1, 1, 0)), ("roll", 3), ("add", S), ("take", 0), ("roll", 1), ("roll", 0),
            ("add", (2, 2, -1, 0)), ("take", 3),
        ):
            states.append((name, told_by(live)))
            getattr(live, name)(worth)
            self.assertEqual(len(live), len(states))
        self.assertEqual(live.fallen_now, (1,))
        for name, state in reversed(states):
            self.assertEqual(live.undo(), name)
            self.assertEqual(told_by(live), state)
        for _ in range(2):
            self.assert_refused(NothingToUndo, live, "undo")
        self.assertEqual(live.add(S), 0)

    def test_numbers_given_again(self):
        live = LiveTable(T)
        self.assertEqual([live.add(S), live.add(S), live.add(S)], [0, 1, 2])
        self.assertEqual(live.take(1), S)
        self.assertEqual(live.add(S), 3)
        live.undo()
        live.undo()
        self.assertEqual([number for number, _ in live.balls_now], [0, 1, 2])
        self.assertEqual(live.add((0, 1, 1, 0)), 3)
        self.assertEqual([live.undo(), live.undo()], ["add", "add"])
        self.assertEqual(live.add((0, 1, 1, 0)), 2)
        self.assertEqual(live.balls_now, ((0, S), (1, S), (2, (0, 1, 1, 0))))

    def test_numbers_are_not_given_twice(self):
        live = LiveTable(T, (EAST,))
        live.add((3, 1, 1, 0))
        live.add(S)
        self.assertEqual([live.take(1), live.roll(1), live.add(S), live.add(S)], [S, [0], 2, 3])
        self.assertEqual([live.take(2), live.take(3), live.add(S)], [S, S, 4])

    def test_what_is_undone_is_gone(self):
        live = LiveTable(T, (EAST,))
        live.add((3, 1, 1, 0))
        live.roll(1)
        live.undo()
        self.assertEqual((live.fallen_now, live.time_now, live.balls_now), ((), 0, ((0, (3, 1, 1, 0)),)))
        self.assertEqual(live.take(0), (3, 1, 1, 0))
        live.undo()
        self.assertEqual(live.roll(1), [0])
        self.assertEqual(live.fallen_now, (0,))

    def test_refused_calls_are_not_undone(self):
        live = LiveTable(T)
        live.add(S)
        self.assert_refused(InvalidShot, live, "add", None)
        self.assert_refused(InvalidBall, live, "take", 7)
        self.assert_refused(InvalidNumber, live, "roll", -1)
        self.assertEqual(live.try_changes(("roll", 1)), [[]])
        self.assertEqual([live.undo(), live.balls_now], ["add", ()])
        self.assert_refused(NothingToUndo, live, "undo")

    def test_fifty_nine_calls(self):
        live, slow = LiveTable((5, 3), (("E", 1, 1), ("N", 0, 0))), SlowTable((5, 3), (("E", 1, 1), ("N", 0, 0)))
        chance = Random(92)
        states = []
        while len(states) < 59:
            call = some_call(chance, (5, 3), slow.now["next"], wrong=False)
            before = slow.told()
            told = outcome(slow.call, *call)
            self.assertEqual(outcome(getattr(live, call[0]), call[1]), told)
            if told[0] == "returned":
                states.append((call[0], before))
            self.assertEqual(told_by(live), slow.told())
        self.assertEqual(len(live), 59)
        for name, state in reversed(states):
            self.assertEqual(live.undo(), name)
            self.assertEqual(told_by(live), state)


class TryTest(LiveCase):
    def live(self):
        live = LiveTable(T, (EAST,))
        live.add(S)
        live.add((0, 1, 1, 0))
        live.roll(1)
        return live

    def test_what_the_calls_would_return(self):
        live = self.live()
        before = told_by(live)
        told = live.try_changes(("add", (3, 0, 1, 0)), ("roll", 1), ("take", 0), ("add", S), ("roll", 2), ("roll", 0))
        self.assertEqual(told, [2, [2], (3, 2, 1, -1), 3, [1], []])
        self.assertEqual(told_by(live), before)
        self.assertEqual([live.add((3, 0, 1, 0)), live.roll(1), live.take(0), live.add(S), live.roll(2)], told[:5])

    def test_no_change_at_all(self):
        live = self.live()
        self.assertEqual(live.try_changes(), [])
        self.assertEqual(LiveTable(T).try_changes(), [])
        self.assertIsNot(live.try_changes(), live.try_changes())

    def test_new_lists(self):
        live = self.live()
        told = live.try_changes(("roll", 3), ("roll", 0), ("roll", 0))
        self.assertEqual(told, [[0, 1], [], []])
        self.assertIsNot(told[1], told[2])
        told[0].append(7)
        told[1].append(8)
        told.append(9)
        self.assertEqual(live.try_changes(("roll", 3), ("roll", 0), ("roll", 0)), [[0, 1], [], []])
        fell = live.roll(3)
        fell.append(5)
        self.assertEqual(live.fallen_now, (0, 1))

    def test_the_first_the_middle_and_the_last_one_fail(self):
        live = self.live()
        good = [("add", S), ("roll", 1), ("take", 0)]
        for error, wrong in (
            (InvalidShot, ("add", (5, 0, 1, 1))), (InvalidShot, ("add", None)), (InvalidShot, ("add", [1, 0, 1, 1])),
            (InvalidNumber, ("roll", -1)), (InvalidNumber, ("roll", True)), (InvalidNumber, ("roll", None)),
            (InvalidBall, ("take", 7)), (InvalidBall, ("take", None)), (InvalidBall, ("take", False)),
            (InvalidBall, ("take", ())), (InvalidChange, ("undo", 0)), (InvalidChange, None),
        ):
            for at in range(4):
                self.assert_refused(error, live, "try_changes", *good[:at], wrong, *good[at:])
        self.assertEqual(live.try_changes(*good), [2, [], (3, 2, 1, -1)])

    def test_the_first_that_fails_decides(self):
        live = self.live()
        wrongs = [
            (InvalidShot, ("add", None)), (InvalidNumber, ("roll", -1)), (InvalidBall, ("take", 9)), (InvalidChange, ("roll",)),
        ]
        for error, wrong in wrongs:
            for _, other in wrongs:
                self.assert_refused(error, live, "try_changes", wrong, other)
                self.assert_refused(error, live, "try_changes", ("roll", 0), wrong, ("add", S), other)

    def test_no_changes(self):
        live = self.live()
        for value in NO_CHANGES + [(Same(), S), Same(), (Same(), Same())]:
            self.assert_refused(InvalidChange, live, "try_changes", value)
            self.assert_refused(InvalidChange, live, "try_changes", ("add", S), value)
            self.assert_refused(InvalidChange, live, "try_changes", value, ("take", 99))

    def test_a_ball_that_is_tried_can_be_taken_only_in_the_trial(self):
        live = self.live()
        self.assertEqual(live.try_changes(("add", S), ("take", 2), ("add", S)), [2, S, 3])
        self.assert_refused(InvalidBall, live, "try_changes", ("add", S), ("take", 2), ("take", 2))
        self.assert_refused(InvalidBall, live, "take", 2)
        self.assert_refused(InvalidBall, live, "try_changes", ("roll", 3), ("take", 1))

    def test_twenty_changes(self):
        live = self.live()
        self.assertEqual(live.try_changes(*[("add", S)] * 20), list(range(2, 22)))
        changes = [("add", S), ("roll", 1)] * 10
        told = live.try_changes(*changes)
        self.assertEqual(changes, [("add", S), ("roll", 1)] * 10)
        self.assertEqual(told, [getattr(live, name)(worth) for name, worth in changes])


class RowsTest(LiveCase):
    def test_rows_of_calls_against_slow_rolling(self):
        chance = Random(93)
        fell = 0
        for _ in range(120):
            table = (chance.randint(1, 5), chance.randint(1, 5))
            pockets = some_pockets(chance, table, chance.choice((0, 1, 1, 2, 3)))
            live, slow = LiveTable(table, pockets), SlowTable(table, pockets)
            for _ in range(40):
                call = some_call(chance, table, slow.now["next"])
                at = chance.random()
                if at < 0.15:
                    call = ("undo",)
                elif at < 0.35:
                    call = ("try_changes", *some_changes(chance, table, slow.now["next"]))
                told = outcome(slow.call, *call)
                self.assertEqual(outcome(getattr(live, call[0]), *call[1:]), told, (table, pockets, call))
                self.assertEqual(told_by(live), slow.told(), (table, pockets, call))
            fell += len(live.fallen_now)
        self.assertGreater(fell, 100)

    def test_two_objects_at_once(self):
        chance = Random(94)
        tables = ((4, 2), (4, 2), (3, 5))
        pockets = (("E", 0, 1),), (("E", 0, 1),), (("S", 1, 2), ("W", 0, 0))
        lives = [LiveTable(*one) for one in zip(tables, pockets)]
        slows = [SlowTable(*one) for one in zip(tables, pockets)]
        for _ in range(200):
            at = chance.randrange(3)
            call = some_call(chance, tables[at], slows[at].now["next"])
            if len(lives[at]) > 50 or chance.random() < 0.3:
                call = ("undo",)
            self.assertEqual(outcome(getattr(lives[at], call[0]), *call[1:]), outcome(slows[at].call, *call))
            self.assertEqual([told_by(live) for live in lives], [slow.told() for slow in slows])


if __name__ == "__main__":
    unittest.main()
