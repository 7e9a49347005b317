"""Balls as objects ([20])."""

import unittest
from copy import deepcopy
from fractions import Fraction
from random import Random

from cushionshots.balls import first_meeting
from cushionshots.errors import InvalidShot, InvalidTable, InvalidTime, NotABall, OtherTable
from cushionshots.objects import Ball
from cushionshots.places import place_at, turned
from cushionshots.pockets import first_at
from tests.quick import Watched
from tests.slow import Roll, all_shots, meetings, pair, some_shot, some_shots

T, S = (4, 2), (1, 0, 1, 1)
TEN = 10 ** 10 - 1


class Same:
    """A value that says to be equal to everything."""

    def __eq__(self, other):
        return True

    def __hash__(self):
        return 0


ODD = [
    None, True, False, 0, 1, 3.0, "", "W", "30", "(3, 0)", b"", [], {}, set(), (), Same(), object(), Ball, len, ...,
    T, S, (T, S), [T, S], Fraction(1), (3,), (3, 0, 0), [3, 0], {3: 0}, {3, 0}, (3, None), (None, 0), (3, False),
    (True, 0), (3.0, 0), (3, 0.0), ("3", "0"), ((3, 0),), ((3, 0), 0), (Same(), Same()), (3, Same()), frozenset((3, 0)),
    (-3, 0), (3, -0.0), (-1, -1), (5, 0), (3, 3), (3, 4), (11, 0), (3 + 8, 0 + 4), range(2), iter((3, 0)),
]


class BallTest(Watched):
    def test_table_and_shot(self):
        ball = Ball(T, S)
        self.assertEqual((ball.table, ball.shot), (T, S))
        named = Ball(shot=S, table=T)
        self.assertEqual((named.table, named.shot), (T, S))
        self.assertEqual(type(ball.table), tuple)

    def test_wrong_balls(self):
        for table in ((4, 0), [4, 2], None, (4, 2, 1), "4x2", (True, 2)):
            for shot in (S, None):
                with self.assertRaises(InvalidTable):
                    Ball(table, shot)
        for shot in ((1, 0, 0, 0), (5, 0, 1, 1), (1, 3, 1, 1), (-1, 0, 1, 1), [1, 0, 1, 1], None, (1, 0, True, 1), "1 0 1 1"):
            with self.assertRaises(InvalidShot):
                Ball(T, shot)

    def test_called(self):
        ball = Ball(T, S)
        self.assertEqual(ball((7, 2)), ((7, 2), (1, 2)))
        self.assertEqual(ball(time=(7, 2)), ((7, 2), (1, 2)))
        self.assertEqual(ball((0, 1)), ((1, 1), (0, 1)))
        self.assertEqual(ball((-3, 1)), ((2, 1), (1, 1)))
        self.assertTrue(callable(ball))
        for time in (None, 1, 0, True, 0.5, (2, 2), (1, 0), (1, -1), [1, 2], "1", (1,), ball, (1, True)):
            with self.assertRaises(InvalidTime):
                ball(time)

    def test_called_at_many_times(self):
        chance = Random(81)
        for table, shot in some_shots(81, 60):
            ball, roll = Ball(table, shot), Roll(table, shot)
            for _ in range(20):
                time = Fraction(chance.randint(-200, 200), chance.randint(1, 9))
                place, _ = roll.state(time)
                self.assertEqual(ball(pair(time)), (pair(place[0]), pair(place[1])))

    def test_turned_with_a_minus(self):
        ball = Ball(T, S)
        back = -ball
        self.assertEqual((back.table, back.shot), (T, (1, 0, -1, -1)))
        self.assertIsNot(back, ball)
        self.assertEqual(-back, ball)
        self.assertEqual((-Ball(T, (4, 2, 0, -3))).shot, (4, 2, 0, 3))
        for table, shot in some_shots(82, 60):
            ball = Ball(table, shot)
            self.assertEqual((-ball).shot, turned(shot))
            self.assertEqual((-ball).table, table)
            self.assertEqual(-(-ball), ball)
            for time in ((0, 1), (1, 1), (7, 3), (-5, 2)):
                self.assertEqual((-ball)(time), ball((-time[0], time[1])))

    def test_a_ball_never_changes(self):
        ball, other = Ball(T, S), Ball(T, (3, 0, -1, 1))
        for name in ("table", "shot"):
            with self.assertRaises(AttributeError):
                setattr(ball, name, (1, 1))
        for _ in range(3):
            self.assertEqual(ball((7, 2)), ((7, 2), (1, 2)))
            self.assertEqual(-ball, Ball(T, (1, 0, -1, -1)))
            self.assertEqual(ball & other, (1, 1))
            self.assertIs((3, 0) in ball, True)
            self.assertIs((2, 2) in ball, False)
            self.assertIs(ball == other, False)
            self.assertEqual((ball.table, ball.shot), (T, S))
        for refused in (lambda: ball(None), lambda: ball & 3, lambda: ball & Ball((2, 4), (0, 0, 1, 1))):
            with self.assertRaises(ValueError):
                refused()
            self.assertEqual((ball.table, ball.shot), (T, S))


class EqualTest(Watched):
    def test_equal_balls(self):
        self.assertIs(Ball(T, S) == Ball((4, 2), (1, 0, 1, 1)), True)
        self.assertIs(Ball(T, S) != Ball((4, 2), (1, 0, 1, 1)), False)
        ball = Ball(T, S)
        self.assertIs(ball == ball, True)
        for other in (
            Ball(T, (1, 0, -1, 1)), Ball(T, (1, 0, 2, 2)), Ball(T, (1, 2, 1, 1)), Ball(T, (2, 0, 1, 1)), -ball,
            Ball((4, 3), S), Ball((5, 2), S), Ball((2, 4), S), Ball((8, 4), S),
        ):
            self.assertIs(ball == other, False)
            self.assertIs(other == ball, False)
            self.assertIs(ball != other, True)

    def test_equal_is_not_always_together(self):
        self.assertIs(Ball(T, (1, 0, 1, 1)) == Ball(T, (1, 0, 1, -1)), False)

    def test_other_values(self):
        ball = Ball(T, S)
        for other in ODD:
            self.assertIs(ball == other, False, repr(other))
            self.assertIs(ball != other, True, repr(other))
        self.assertIs(ball == [ball], False)
        self.assertIs(ball == (ball,), False)

    def test_all_balls_of_small_tables(self):
        told = [((1, 2), shot) for shot in all_shots((1, 2), 1)] + [((2, 1), shot) for shot in all_shots((2, 1), 1)]
        balls = [Ball(table, shot) for table, shot in told]
        again = [Ball(*deepcopy(one)) for one in told]
        for at, ball in enumerate(balls):
            self.assertEqual([ball == other for other in again], [at == number for number in range(len(again))])


class MeetingTest(Watched):
    def test_meetings(self):
        ball = Ball(T, S)
        self.assertEqual(ball & Ball(T, (3, 0, -1, 1)), (1, 1))
        self.assertEqual(ball & Ball(T, (0, 0, 1, 1)), (7, 2))
        self.assertEqual(ball & ball, (0, 1))
        self.assertEqual(ball & -ball, (0, 1))
        self.assertIsNone(Ball(T, (0, 1, 1, 0)) & Ball(T, (0, 2, 1, 0)))

    def test_against_rolling(self):
        chance = Random(83)
        for _ in range(200):
            table = (chance.randint(1, 4), chance.randint(1, 4))
            shot, other = some_shot(chance, table, 4), some_shot(chance, table, 4)
            times = meetings(Roll(table, shot), Roll(table, other))
            wanted = (0, 1) if times is None else pair(times[0]) if times else None
            self.assertEqual(Ball(table, shot) & Ball(table, other), wanted)

    def test_no_balls(self):
        ball = Ball(T, S)
        for other in ODD:
            with self.assertRaises(NotABall, msg=repr(other)):
                ball & other

    def test_other_tables(self):
        ball = Ball(T, S)
        for table in ((2, 4), (4, 3), (5, 2), (8, 4), (1, 1)):
            with self.assertRaises(OtherTable):
                ball & Ball(table, (1, 0, 1, 1))
            with self.assertRaises(OtherTable):
                Ball(table, (1, 0, 1, 1)) & ball
            with self.assertRaises(NotABall):
                ball & (table, S)


class ContainsTest(Watched):
    def test_as_told(self):
        self.assertIs((3, 0) in Ball(T, S), True)
        self.assertIs((1, 0) in Ball(T, S), True)
        self.assertIs((2, 2) in Ball(T, S), False)
        self.assertIs((3, 0) not in Ball(T, S), False)

    def test_all_spots_of_all_balls_on_small_tables(self):
        for table in ((1, 1), (1, 2), (2, 2), (3, 2)):
            for shot in all_shots(table, 2):
                self.hold_against(table, shot)

    def test_all_spots_of_some_balls(self):
        for table, shot in some_shots(84, 80):
            self.hold_against(table, shot)

    def hold_against(self, table, shot):
        """Spots on and beside a table, held against the spots to which a whole round comes."""
        ball, roll = Ball(table, shot), Roll(table, shot)
        for x in range(-1, table[0] + 2):
            for y in range(-1, table[1] + 2):
                on = 0 <= x <= table[0] and 0 <= y <= table[1]
                wanted = on and roll.first_in_box((x, x, y, y)) is not None
                self.assertIs((x, y) in ball, wanted, (table, shot, x, y))

    def test_values_of_all_kinds(self):
        for ball in (Ball(T, S), Ball(T, (3, 0, 0, 1)), Ball(T, (3, 0, 1, 0))):
            for value in ODD:
                self.assertIs(value in ball, False, repr(value))

    def test_numbers_of_ten_digits(self):
        chance = Random(85)
        found = 0
        for number in range(60):
            table = (chance.randint(1, TEN), chance.randint(1, TEN))
            shot = some_shot(chance, table, TEN)
            spot = (chance.randint(0, table[0]), chance.randint(0, table[1]))
            if number % 2:
                place = place_at(table, shot, (chance.randint(0, TEN), 1))
                spot = (place[0][0], place[1][0])
                self.assertIs(spot in Ball(table, shot), True)
            self.assertIs(spot in Ball(table, shot), first_at(table, shot, spot) is not None)
            found += spot in Ball(table, shot)
        self.assertGreater(found, 30)

    def test_forty_digits_for_all_but_in(self):
        chance = Random(86)
        great = 10 ** 40 - 1
        for _ in range(20):
            table = (chance.randint(1, great), chance.randint(1, great))
            shot, other = some_shot(chance, table, great), some_shot(chance, table, great)
            ball, second = Ball(table, shot), Ball(table, other)
            time = pair(Fraction(chance.randint(-great, great), chance.randint(1, great)))
            self.assertEqual(ball(time), place_at(table, shot, time))
            self.assertEqual(ball & second, first_meeting(table, shot, other))
            self.assertEqual((-ball).shot, turned(shot))
            self.assertIs(ball == second, False)
            self.assertIs(ball == Ball(table, shot), True)


if __name__ == "__main__":
    unittest.main()
