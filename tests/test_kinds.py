"""Live tables on which balls do not meet, or are only so many ([22])."""

import unittest
from random import Random

from cushionshots.errors import BallsMeet, InvalidBall, InvalidChange, InvalidNumber, InvalidPockets, InvalidShot
from cushionshots.errors import InvalidTable, InvalidText, NothingToUndo, ShotError, TooMany
from cushionshots.kinds import BoundedTable, CalmBoundedTable, CalmTable
from cushionshots.live import LiveTable
from tests.quick import Watched
from tests.slow_live import SlowTable, outcome, some_call, some_changes, some_pockets, told_by

T, S = (4, 2), (1, 0, 1, 1)
EAST, WEST_POINT = ("E", 0, 2), ("W", 1, 1)
TO_EAST, TO_WEST = (0, 1, 1, 0), (4, 1, -1, 0)
KINDS = (LiveTable, CalmTable, BoundedTable, CalmBoundedTable)
CALM = (CalmTable, CalmBoundedTable)
BOUNDED = (BoundedTable, CalmBoundedTable)
NO_BOUNDS = (None, True, False, -1, -30, -(10 ** 40), 1.0, "1", "", (), (1,), [1], {})


class KindsCase(Watched):
    def with_balls(self, kind, pockets, *shots):
        live = kind(T, pockets)
        for shot in shots:
            live.add(shot)
        return live

    def assert_refused(self, wanted, live, name, *worths):
        """A call that raises an error, which tells what it has to, and changes nothing."""
        before = told_by(live)
        with self.assertRaises(ShotError, msg=(name, worths)) as caught:
            getattr(live, name)(*worths)
        self.assertIs(type(caught.exception), type(wanted), (name, worths))
        for told in ("time", "count"):
            self.assertEqual(getattr(caught.exception, told, None), getattr(wanted, told, None), (name, worths))
        self.assertEqual(told_by(live), before)

    def assert_meet(self, time, live, many):
        """A roll in which two balls meet, also a tried one."""
        self.assert_refused(BallsMeet(time), live, "roll", many)
        self.assert_refused(BallsMeet(time), live, "try_changes", ("roll", many))
        self.assert_refused(BallsMeet(time), live, "try_changes", ("roll", 0), ("roll", many), ("roll", -1))

    def assert_full(self, count, live, shot):
        """A ball that is too many, also a tried one."""
        self.assert_refused(TooMany(count), live, "add", shot)
        self.assert_refused(TooMany(count), live, "try_changes", ("add", shot))
        self.assert_refused(TooMany(count), live, "try_changes", ("add", shot), ("add", None))


class ClassesTest(KindsCase):
    def test_each_object_is_an_object_of_its_classes(self):
        for kind, others in (
            (LiveTable, ()), (CalmTable, (LiveTable,)), (BoundedTable, (LiveTable,)),
            (CalmBoundedTable, (CalmTable, BoundedTable, LiveTable)),
        ):
            for live in (kind(T), kind(T, (EAST,)), kind.read("4x2")):
                self.assertIs(type(live), kind)
                self.assertEqual([isinstance(live, one) for one in KINDS], [one in (kind, *others) for one in KINDS])

    def test_told_words_of_all_kinds(self):
        for kind, words in (
            (LiveTable, []), (CalmTable, ["calm"]), (BoundedTable, ["most 30"]), (CalmBoundedTable, ["calm", "most 30"]),
        ):
            live = self.with_balls(kind, (EAST,), (3, 1, 1, 0), (0, 0, 0, 1))
            self.assertEqual(live.told_words(), ["balls 2", "fallen 0"] + words)
            live.roll(1)
            self.assertEqual(live.told_words(), ["balls 1", "fallen 1"] + words)
            live.told_words().append("more")
            self.assertEqual(live.told_words(), ["balls 1", "fallen 1"] + words)
        self.assertEqual(BoundedTable(T, (), 0).told_words(), ["balls 0", "fallen 0", "most 0"])
        self.assertEqual(CalmBoundedTable(T, (), 7).told_words(), ["balls 0", "fallen 0", "calm", "most 7"])
        self.assertEqual(BoundedTable(T, most=10 ** 40 - 1).told_words()[2], "most " + "9" * 40)
        self.assertEqual(BoundedTable(T, most=10 ** 5000).told_words()[2], "most 1" + "0" * 5000)

    def test_class_values_and_methods_of_the_class(self):
        for kind in KINDS:
            self.assertEqual(kind.EMPTY, ())
            self.assertIs(kind.is_valid(T), True)
            self.assertIs(kind.is_valid((4, 0)), False)
            live = kind.read(table_text="4x2")
            self.assertEqual(told_by(live), told_by(kind(T)))
            self.assertIs(type(live.read("1x1")), kind)
            for text in ("4X2", "", None, T):
                with self.assertRaises(InvalidText):
                    kind.read(text)

    def test_read_uses_the_default_bound(self):
        for kind in BOUNDED:
            for live in (kind.read("4x2"), kind(T), kind(T, ()), kind(T, (), 30)):
                for number in range(30):
                    self.assertEqual(live.add(S), number)
                self.assert_full(31, live, S)
            other = kind(T, (), 2).read("4x2")
            self.assertEqual([other.add(S) for _ in range(3)], [0, 1, 2])

    def test_by_name(self):
        for kind in BOUNDED:
            live = kind(most=1, pockets=(EAST,), table=T)
            self.assertEqual([live.add(shot=(3, 1, 1, 0)), live.roll(many=1)], [0, [0]])
            self.assertEqual(kind(T, (EAST,), most=4).told_words()[-1], "most 4")
            self.assertEqual(kind(T, most=5).told_words()[-1], "most 5")
        self.assertEqual(CalmTable(pockets=(EAST,), table=T).told_words(), ["balls 0", "fallen 0", "calm"])

    def test_errors_of_the_constructors(self):
        for kind in KINDS:
            for table in (None, (4, 0), [4, 2], "4x2", (True, 2)):
                for pockets in ((), None, [EAST]):
                    with self.assertRaises(InvalidTable):
                        kind(table, pockets)
            for pockets in (None, [], [EAST], EAST, (EAST, None), (("E", 0, 3),), "E"):
                with self.assertRaises(InvalidPockets):
                    kind(T, pockets)
        for kind in BOUNDED:
            for most in NO_BOUNDS:
                for pockets in ((), (EAST,)):
                    with self.assertRaises(InvalidNumber):
                        kind(T, pockets, most)
                with self.assertRaises(InvalidPockets):
                    kind(T, [], most)
                with self.assertRaises(InvalidTable):
                    kind((0, 2), [], most)


class CalmTest(KindsCase):
    def test_at_the_beginning(self):
        for kind in CALM:
            live = self.with_balls(kind, (), S, S)
            for many in (0, 1, 7, 10 ** 10 - 1):
                self.assert_meet((0, 1), live, many)
            live = self.with_balls(kind, (), S, (1, 0, -1, 1), (3, 2, 1, 1))
            self.assert_meet((0, 1), live, 0)
            self.assertEqual(live.take(0), S)
            self.assertEqual(live.roll(0), [])

    def test_add_puts_a_ball_also_at_the_place_of_another_one(self):
        for kind in CALM:
            live = self.with_balls(kind, (), TO_EAST)
            live.roll(1)
            self.assertEqual(live.add((1, 1, 0, 1)), 1)
            self.assert_meet((0, 1), live, 0)
            self.assert_refused(BallsMeet((0, 1)), live, "try_changes", ("add", S), ("roll", 0))
            self.assertEqual(live.try_changes(("add", (1, 1, 1, 1)), ("take", 1), ("take", 2), ("roll", 0))[3], [])
            live.undo()
            self.assertEqual(live.roll(0), [])

    def test_at_the_end(self):
        for kind in CALM:
            live = self.with_balls(kind, (), TO_EAST, TO_WEST)
            for many in (2, 3, 100):
                self.assert_meet((2, 1), live, many)
            self.assertEqual(live.roll(1), [])
            self.assert_meet((1, 1), live, 1)
            self.assertEqual(live.roll(0), [])
            self.assertEqual(live.balls_now, ((0, (1, 1, 1, 0)), (1, (3, 1, -1, 0))))
            self.assertEqual(live.time_now, 1)

    def test_at_times_that_are_no_integers(self):
        for kind in CALM:
            live = self.with_balls(kind, (), TO_EAST, (3, 1, -1, 0))
            self.assertEqual(live.roll(1), [])
            self.assert_meet((1, 2), live, 1)
            live = self.with_balls(kind, (), TO_EAST, (4, 1, -2, 0))
            self.assertEqual(live.roll(1), [])
            self.assert_meet((1, 3), live, 1)
            live = self.with_balls(kind, (), S, (0, 0, 1, 1))
            self.assertEqual(live.roll(3), [])
            self.assert_meet((1, 2), live, 1)

    def test_the_least_of_several_meetings(self):
        for kind in CALM:
            live = self.with_balls(kind, (), TO_EAST, TO_WEST, (3, 0, 0, 1), (2, 0, 0, 3))
            self.assert_meet((2, 1), self.with_balls(kind, (), TO_EAST, TO_WEST), 2)
            self.assert_meet((1, 1), live, 2)
            self.assert_meet((1, 1), live, 1)
            live.take(2)
            self.assertEqual(live.roll(1), [])
            self.assert_meet((1, 1), live, 2)

    def test_falls_ahead_of_the_meeting(self):
        for kind in CALM:
            # At the time 2 both would be at (1, 1), but the first ball falls at the time 1.
            live = self.with_balls(kind, (WEST_POINT,), (1, 1, -1, 0), (1, 0, 0, 1), (3, 1, -1, 0))
            live.take(1)
            self.assertEqual(live.roll(3), [0, 2])
            live = self.with_balls(kind, (), (1, 1, -1, 0), (3, 1, -1, 0))
            self.assert_meet((2, 1), live, 3)
            self.assertEqual(live.roll(1), [])

    def test_falls_at_the_meeting(self):
        for kind in CALM:
            # The second ball rolls along the cushion and comes to the pocket, too, but does not fall.
            for pockets in ((WEST_POINT,), ()):
                live = self.with_balls(kind, pockets, (1, 1, -1, 0), (0, 0, 0, 1))
                for many in (1, 2, 50):
                    self.assert_meet((1, 1), live, many)
                self.assertEqual(live.roll(0), [])
            # Both fall at the time 1 at one place.
            live = self.with_balls(kind, (("W", 0, 2),), (1, 1, -1, 0), (2, 1, -2, 0))
            self.assert_meet((1, 1), live, 1)
            self.assert_meet((1, 1), live, 5)
            # Both fall at the time 1, at two places.
            live = self.with_balls(kind, (("W", 0, 2),), (1, 1, -1, 0), (2, 0, -2, 0))
            self.assertEqual(live.roll(5), [0, 1])

    def test_falls_behind_the_meeting(self):
        for kind in CALM:
            live = self.with_balls(kind, (EAST,), TO_EAST, (2, 0, 0, 1), (3, 0, 0, 1))
            self.assert_refused(BallsMeet((3, 1)), live, "roll", 4)
            self.assertEqual(live.roll(2), [])
            self.assert_meet((1, 1), live, 2)
            live.take(2)
            self.assertEqual(live.roll(2), [0])

    def test_without_the_balls_that_fell_in_former_rolls(self):
        for kind in CALM:
            live = self.with_balls(kind, (WEST_POINT,), (1, 1, -1, 0), (3, 1, -1, 0))
            self.assertEqual([live.roll(1), live.roll(1), live.roll(1)], [[0], [], [1]])
            self.assertEqual(live.undo(), "roll")
            self.assertEqual(live.undo(), "roll")
            self.assertEqual(live.undo(), "roll")
            self.assertEqual(live.roll(3), [0, 1])

    def test_taken_balls_do_not_meet(self):
        for kind in CALM:
            live = self.with_balls(kind, (), TO_EAST, TO_WEST)
            self.assertEqual(live.take(1), TO_WEST)
            self.assertEqual(live.roll(2), [])
            live.undo()
            live.undo()
            self.assert_meet((2, 1), live, 2)
            self.assertEqual(live.try_changes(("take", 0), ("roll", 2)), [TO_EAST, []])

    def test_balls_may_meet_on_the_other_kinds(self):
        for kind in (LiveTable, BoundedTable):
            live = self.with_balls(kind, (), TO_EAST, TO_WEST, S, S)
            self.assertEqual([live.roll(0), live.roll(2), live.roll(5)], [[], [], []])

    def test_number_ahead_of_meeting(self):
        for kind in CALM:
            live = self.with_balls(kind, (), S, S)
            for many in (None, True, False, -1, 1.0, "1", (1, 1), [1]):
                self.assert_refused(InvalidNumber(), live, "roll", many)
                self.assert_refused(InvalidNumber(), live, "try_changes", ("roll", many))

    def test_many_balls(self):
        for kind in CALM:
            table = (1000, 100)
            live = kind(table, (("E", 0, 100),))
            for number in range(30):
                live.add((30 - number, 3 * number, 1, 0))
            self.assertEqual(live.roll(900), [])
            self.assertEqual(live.roll(99), list(range(30)))
            live.undo()
            # The ball n is at (950, 3 n) at the time 20 + n, and one that comes down there at (950, 80 - n).
            live.take(29)
            live.add((950, 100, 0, -1))
            self.assert_meet((40, 1), live, 90)
            self.assert_meet((40, 1), live, 40)
            self.assertEqual(live.roll(39), [])
            self.assert_meet((1, 1), live, 1)


class BoundedTest(KindsCase):
    def test_bounds(self):
        for kind in BOUNDED:
            self.assert_full(1, kind(T, (), 0), S)
            self.assertEqual(kind(T, (), 0).roll(5), [])
            live = kind(T, (), 1)
            self.assertEqual(live.add(S), 0)
            self.assert_full(2, live, TO_EAST)
            live = kind(T, (), 10 ** 40)
            self.assertEqual([live.add(S) for _ in range(59)], list(range(59)))

    def test_room_by_undo_and_take(self):
        for kind in BOUNDED:
            live = kind(T, (), 2)
            live.add(S)
            live.add(TO_EAST)
            self.assert_full(3, live, TO_WEST)
            self.assertEqual(live.undo(), "add")
            self.assertEqual(live.add(TO_WEST), 1)
            self.assertEqual(live.take(0), S)
            self.assertEqual(live.try_changes(("add", S), ("take", 1), ("add", S)), [2, TO_WEST, 3])
            self.assert_refused(TooMany(3), live, "try_changes", ("add", S), ("add", S))
            self.assertEqual(live.add(S), 2)
            self.assert_full(3, live, S)
            # Behind the undone take there is no room again.
            live.undo()
            live.undo()
            self.assert_full(3, live, S)

    def test_room_by_falls(self):
        for kind in BOUNDED:
            live = kind(T, (EAST,), 2)
            live.add((3, 1, 1, 0))
            live.add((0, 0, 0, 1))
            self.assert_full(3, live, S)
            self.assertEqual(live.try_changes(("roll", 1), ("add", S)), [[0], 2])
            self.assert_refused(TooMany(3), live, "try_changes", ("roll", 1), ("add", S), ("add", S))
            self.assertEqual(live.roll(1), [0])
            self.assertEqual(live.add(S), 2)
            self.assert_full(3, live, S)

    def test_no_bound_on_the_other_kinds(self):
        for kind in (LiveTable, CalmTable):
            live = kind(T)
            self.assertEqual([live.add(S) for _ in range(40)], list(range(40)))

    def test_shot_ahead_of_bound(self):
        for kind in BOUNDED:
            live = kind(T, (), 0)
            for shot in (None, (5, 0, 1, 1), (1, 0, 0, 0), [1, 0, 1, 1], True, (1, 0, 1, True)):
                self.assert_refused(InvalidShot(), live, "add", shot)
                self.assert_refused(InvalidShot(), live, "try_changes", ("add", shot))

    def test_errors_of_the_other_calls(self):
        for kind in KINDS:
            live = self.with_balls(kind, (), S)
            self.assert_refused(InvalidBall(), live, "take", 1)
            self.assert_refused(InvalidBall(), live, "take", False)
            self.assert_refused(InvalidChange(), live, "try_changes", ("take",))
            self.assert_refused(InvalidChange(), live, "try_changes", ("roll", 1), None)
            self.assertEqual(live.undo(), "add")
            self.assert_refused(NothingToUndo(), live, "undo")

    def test_both_at_once(self):
        live = CalmBoundedTable(T, (EAST,), 2)
        live.add(TO_EAST)
        live.add((2, 0, 0, 1))
        self.assert_full(3, live, S)
        self.assertEqual(live.try_changes(("roll", 4), ("add", S)), [[0], 2])
        live.take(1)
        live.add((1, 0, 0, 1))
        self.assert_meet((1, 1), live, 4)
        self.assert_full(3, live, S)
        self.assert_refused(TooMany(3), live, "try_changes", ("add", S), ("roll", 4))
        self.assert_refused(BallsMeet((1, 1)), live, "try_changes", ("roll", 4), ("add", S))
        self.assertEqual(live.told_words(), ["balls 2", "fallen 0", "calm", "most 2"])


class RowsTest(KindsCase):
    def kinds(self, table, pockets, most):
        return [
            (CalmTable(table, pockets), SlowTable(table, pockets, calm=True)),
            (BoundedTable(table, pockets, most), SlowTable(table, pockets, most=most)),
            (CalmBoundedTable(table, pockets, most), SlowTable(table, pockets, calm=True, most=most)),
        ]

    def test_rows_of_calls_against_slow_rolling(self):
        chance = Random(101)
        met = full = 0
        for _ in range(70):
            table = (chance.randint(1, 5), chance.randint(1, 5))
            pockets = some_pockets(chance, table, chance.choice((0, 1, 1, 2, 3)))
            for live, slow in self.kinds(table, pockets, chance.randint(0, 5)):
                for _ in range(40):
                    call = some_call(chance, table, slow.now["next"])
                    at = chance.random()
                    if at < 0.15:
                        call = ("undo",)
                    elif at < 0.35:
                        call = ("try_changes", *some_changes(chance, table, slow.now["next"]))
                    told = outcome(slow.call, *call)
                    self.assertEqual(outcome(getattr(live, call[0]), *call[1:]), told, (table, pockets, call))
                    self.assertEqual(told_by(live), slow.told(), (table, pockets, call))
                    met += told[0] is BallsMeet
                    full += told[0] is TooMany
        self.assertGreater(met, 200)
        self.assertGreater(full, 200)

    def test_few_balls_and_short_rolls(self):
        """So that balls meet at all times of a roll, also those that fall in it."""
        chance = Random(102)
        counted = {"met": 0, "end": 0, "between": 0, "fell": 0}
        for _ in range(1500):
            table = (chance.randint(1, 4), chance.randint(1, 4))
            pockets = some_pockets(chance, table, chance.choice((1, 2)))
            live, slow = self.kinds(table, pockets, 3)[0]
            for _ in range(2):
                for _ in range(chance.randint(2, 3)):
                    call = some_call(chance, table, 0, greatest=2, wrong=False)
                    if call[0] == "add":
                        self.assertEqual(outcome(live.add, call[1]), outcome(slow.call, *call))
                many = chance.choice((0, 1, 1, 2, 3))
                told = outcome(slow.call, "roll", many)
                self.assertEqual(outcome(live.roll, many), told, (table, pockets, slow.told(), many))
                self.assertEqual(told_by(live), slow.told())
                if told[0] is BallsMeet:
                    counted["met"] += 1
                    counted["end"] += told[1] == (many, 1)
                    counted["between"] += told[1][1] > 1
                elif told[0] == "returned":
                    counted["fell"] += len(told[1])
        self.assertGreater(min(counted.values()), 40, counted)


if __name__ == "__main__":
    unittest.main()
