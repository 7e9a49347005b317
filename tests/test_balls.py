"""Two balls on one table ([14])."""

import unittest
from fractions import Fraction
from math import lcm
from random import Random

from cushionshots.balls import are_together, count_meetings, first_meeting
from cushionshots.errors import AlwaysTogether
from cushionshots.places import crossed, place_at, scaled, shot_at, turned
from tests.quick import Watched
from tests.slow import Roll, all_shots, least_within, meetings, pair, some_shot

T, S = (4, 2), (1, 0, 1, 1)
GREAT = 10 ** 40 - 1
LITTLE = Fraction(1, 10 ** 6)


class ExamplesTest(Watched):
    def test_examples_of_section_6(self):
        self.assertEqual(first_meeting(T, S, (3, 0, -1, 1)), (1, 1))
        self.assertEqual(first_meeting(T, S, (0, 0, 1, 1)), (7, 2))
        self.assertIs(are_together(T, S, S), True)
        self.assertEqual(count_meetings(T, S, (3, 0, -1, 1), (8, 1)), 2)


class RollTest(Watched):
    def hold_against(self, table, one, other):
        """Two shots, rolled, against all that is said of their meetings; whether they have some."""
        shot, second = one[0], other[0]
        told = (table, shot, second)
        times = meetings(one[1], other[1])
        self.assertIs(are_together(*told), times is None, told)
        if times is None:
            self.assertEqual(first_meeting(*told), (0, 1), told)
            for time in ((0, 1), (-1, 2), (7, 3)):
                with self.assertRaises(AlwaysTogether):
                    count_meetings(*told, time)
            return False
        self.assertEqual(first_meeting(*told), pair(times[0]) if times else None, told)
        self.assertEqual(count_meetings(*told, pair(one[1].until)), len(times), told)
        self.assertEqual(count_meetings(*told, (0, 1)), int(0 in times), told)
        for time in ((-1, 10 ** 6), (-1, 1), (-7, 3), (-100, 1), (-(10 ** 40), 1)):
            self.assertEqual(count_meetings(*told, time), 0, told)
        for at, time in enumerate(times[:20]):
            self.assertEqual(count_meetings(*told, pair(time)), at + 1, told)
            self.assertEqual(count_meetings(*told, pair(time + LITTLE)), at + 1, told)
            self.assertEqual(count_meetings(*told, pair(time - LITTLE)), at, told)
        return len(times) > 0

    def test_all_pairs_on_small_tables(self):
        for table, greatest in (((1, 1), 2), ((1, 2), 1), ((2, 1), 1)):
            rolled = [(shot, Roll(table, shot)) for shot in all_shots(table, greatest)]
            for one in rolled:
                for other in rolled:
                    self.hold_against(table, one, other)

    def test_some_pairs_for_two_rounds(self):
        chance = Random(41)
        met = 0
        for _ in range(500):
            table = (chance.randint(1, 5), chance.randint(1, 5))
            shots = [some_shot(chance, table, 4) for _ in range(2)]
            met += self.hold_against(table, *[(shot, Roll(table, shot, 2)) for shot in shots])
        self.assertGreater(met, 150)

    def test_shots_from_one_place(self):
        chance = Random(42)
        for _ in range(150):
            table = (chance.randint(1, 5), chance.randint(1, 5))
            shot, other = some_shot(chance, table, 5), some_shot(chance, table, 5)
            for second in (shot[:2] + other[2:], turned(shot), shot[:3] + (-shot[3],) if shot[3] else shot):
                self.assertEqual(first_meeting(table, shot, second), (0, 1))
                self.hold_against(table, (shot, Roll(table, shot)), (second, Roll(table, second)))

    def test_either_order(self):
        chance = Random(43)
        for _ in range(100):
            table = (chance.randint(1, 5), chance.randint(1, 5))
            shot, other = some_shot(chance, table, 4), some_shot(chance, table, 4)
            self.assertEqual(first_meeting(table, shot, other), first_meeting(table, other, shot))
            self.assertEqual(are_together(table, shot, other), are_together(table, other, shot))


class EdgesTest(Watched):
    def test_balls_that_go_to_and_fro_in_one_line(self):
        self.assertEqual(first_meeting(T, (0, 1, 1, 0), (4, 1, 1, 0)), (2, 1))
        self.assertEqual(count_meetings(T, (0, 1, 1, 0), (4, 1, -1, 0), (10, 1)), 3)
        self.assertEqual(first_meeting(T, (0, 1, 1, 0), (1, 1, 1, 0)), (7, 2))
        self.assertEqual(first_meeting(T, (0, 1, 1, 0), (1, 1, 3, 0)), (7, 4))
        self.assertEqual(first_meeting(T, (2, 0, 0, 1), (2, 2, 0, 2)), (2, 3))
        self.assertIsNone(first_meeting(T, (0, 1, 1, 0), (0, 2, 1, 0)))
        self.assertEqual(count_meetings(T, (0, 1, 1, 0), (0, 2, 1, 0), (10 ** 40, 1)), 0)
        self.assertEqual(first_meeting(T, (0, 1, 1, 0), (3, 0, 0, 1)), (3, 1))
        self.assertIsNone(first_meeting(T, (0, 1, 1, 0), (2, 0, 0, 1)))

    def test_together_only_by_a_cushion(self):
        for shot, other in (
            ((0, 1, 1, 0), (0, 1, -1, 0)), ((4, 1, 3, 0), (4, 1, -3, 0)), ((0, 1, 1, 1), (0, 1, -1, 1)),
            ((3, 0, 2, 5), (3, 0, 2, -5)), ((3, 2, 0, 5), (3, 2, 0, -5)), ((4, 2, 1, 5), (4, 2, -1, -5)),
            ((0, 0, 1, 5), (0, 0, 1, -5)),
        ):
            self.assertIs(are_together(T, shot, other), True)
            self.assertEqual(first_meeting(T, shot, other), (0, 1))
            with self.assertRaises(AlwaysTogether):
                count_meetings(T, shot, other, (5, 2))

    def test_one_place_yet_not_together(self):
        for shot, other in (
            ((1, 1, 1, 0), (1, 1, -1, 0)), ((0, 1, 1, 1), (0, 1, -1, -1)), ((0, 0, 1, 2), (0, 0, 2, 1)),
            ((2, 0, 1, 1), (2, 0, 1, 2)), ((0, 0, 1, 1), (0, 0, 2, 2)), ((4, 1, 1, 1), (0, 1, -1, 1)),
        ):
            self.assertIs(are_together(T, shot, other), False)

    def test_times_from_0_to_this_one(self):
        shot, other = (1, 1, 1, 0), (1, 1, -1, 0)
        counts = [count_meetings(T, shot, other, time) for time in ((-1, 1), (-1, 1000), (0, 1), (1, 1000), (3, 1))]
        self.assertEqual(counts, [0, 0, 1, 1, 1])
        counts = [count_meetings(T, shot, other, time) for time in ((3999, 1000), (4, 1), (4001, 1000), (8, 1))]
        self.assertEqual(counts, [1, 2, 2, 3])

    def test_a_time_is_counted_once(self):
        # In corners both the difference and the sum of both numbers are multiples of twice the side.
        self.assertEqual(count_meetings((1, 1), (0, 0, 1, 1), (0, 0, 3, 3), (2, 1)), 5)
        self.assertEqual(count_meetings((1, 1), (0, 0, 1, 1), (0, 0, 3, 1), (2, 1)), 5)
        self.assertEqual(count_meetings((1, 1), (0, 0, 1, 2), (0, 0, 3, 2), (1, 1)), 3)

    def test_together_behind_wrong_time_and_ahead_of_time_below_0(self):
        with self.assertRaises(AlwaysTogether):
            count_meetings(T, S, S, (-1, 1))


def first_by_circles(table, shot, other):
    """The first meeting: for each pair of a sum or difference the least number of circles, by halving."""
    (w, h), times = table, []
    for sign in (1, -1):
        a, b = shot[0] - sign * other[0], shot[2] - sign * other[2]
        for along in (1, -1):
            c, d = shot[1] - along * other[1], shot[3] - along * other[3]
            times.append(first_of_both(a, b, 2 * w, c, d, 2 * h))
    return min([time for time in times if time is not None], default=None)


def first_of_both(a, b, circle, c, d, other_circle):
    """The least t from 0 on for which a + b t is a multiple of circle and c + d t one of other_circle."""
    if b == 0:
        if a % circle:
            return None
        if d == 0:
            return None if c % other_circle else Fraction(0)
        return first_of_both(c, d, other_circle, a, b, circle)
    if b < 0:
        a, b = -a, -b
    # t = (circle k - a) / b
    least = -(-a // circle)
    index = least_within(
        d * circle, c * b + d * (circle * least - a), other_circle * b, [(0, 0)]
    )
    return None if index is None else Fraction(circle * (least + index) - a, b)


class GreatTest(Watched):
    def pairs(self, seed, many):
        chance = Random(seed)
        for number in range(many):
            table = (chance.randint(1, GREAT), chance.randint(1, GREAT))
            shot, other = some_shot(chance, table, GREAT), some_shot(chance, table, GREAT)
            if number % 4 == 1:
                other = other[:2] + (chance.choice((shot[2], -shot[2])), other[3])
            if number % 4 == 2:
                other = (shot[0],) + other[1:2] + (0, other[3] or 1)
            yield table, shot, other

    def test_the_slow_reckoning_of_great_numbers_itself(self):
        chance = Random(44)
        for _ in range(100):
            table = (chance.randint(1, 4), chance.randint(1, 4))
            shot, other = some_shot(chance, table, 4), some_shot(chance, table, 4)
            times = meetings(Roll(table, shot), Roll(table, other))
            wanted = Fraction(0) if times is None else times[0] if times else None
            self.assertEqual(first_by_circles(table, shot, other), wanted)

    def test_first_meetings_of_forty_digits(self):
        met = 0
        for table, shot, other in self.pairs(45, 32):
            wanted = first_by_circles(table, shot, other)
            told = first_meeting(table, shot, other)
            self.assertEqual(told, None if wanted is None else pair(wanted))
            if told is None:
                continue
            met += 1
            self.assertEqual(place_at(table, shot, told), place_at(table, other, told))
            self.assertEqual(count_meetings(table, shot, other, told), 1)
            self.assertEqual(count_meetings(table, shot, other, pair(wanted - Fraction(1, 10 ** 200))), 0)
        self.assertGreater(met, 8)

    def test_counts_many_rounds_later(self):
        chance = Random(46)
        for _ in range(150):
            table = (chance.randint(1, 4), chance.randint(1, 4))
            shot, other = some_shot(chance, table, 4), some_shot(chance, table, 4)
            one, second = Roll(table, shot), Roll(table, other)
            times = meetings(one, second)
            if times is None:
                continue
            rounds, time = chance.randint(1, 10 ** 38), Fraction(chance.randint(0, 9 * one.round), 9)
            # The end of one round is the beginning of the next one.
            each = sum(1 for at in times if at < one.round)
            wanted = each * rounds + sum(1 for at in times if at <= time)
            self.assertEqual(count_meetings(table, shot, other, pair(time + rounds * one.round)), wanted)

    def test_scaled_and_faster_pairs(self):
        chance = Random(47)
        for _ in range(100):
            table = (chance.randint(1, 5), chance.randint(1, 5))
            shot, other = some_shot(chance, table, 4), some_shot(chance, table, 4)
            if are_together(table, shot, other):
                continue
            many, speed = chance.randint(1, 10 ** 39), 10 ** 38
            great, great_shot = scaled(table, shot, many)
            _, great_other = scaled(table, other, many)
            fast = great_shot[:2] + (shot[2] * speed, shot[3] * speed)
            fast_other = great_other[:2] + (other[2] * speed, other[3] * speed)
            told = first_meeting(table, shot, other)
            for one, second, factor in ((great_shot, great_other, 1), (fast, fast_other, speed)):
                wanted = None if told is None else pair(Fraction(*told) * many / factor)
                self.assertEqual(first_meeting(great, one, second), wanted)
                time = Fraction(chance.randint(0, 400), 7)
                wanted = count_meetings(table, shot, other, pair(time))
                self.assertEqual(count_meetings(great, one, second, pair(time * many / factor)), wanted)

    def test_crossed_pairs(self):
        for table, shot, other in self.pairs(48, 20):
            crossed_table, crossed_shot = crossed(table, shot)
            crossed_other = crossed(table, other)[1]
            told = first_meeting(table, shot, other)
            self.assertEqual(first_meeting(crossed_table, crossed_shot, crossed_other), told)

    def test_balls_sent_back_from_a_meeting(self):
        chance = Random(49)
        for _ in range(60):
            table = (chance.randint(1, GREAT), chance.randint(1, GREAT))
            shot = some_shot(chance, table, GREAT)
            other = shot[:2] + some_shot(chance, table, GREAT)[2:]
            ago = chance.randint(1, 10 ** 30)
            one, second = shot_at(table, shot, (-ago, 1)), shot_at(table, other, (-ago, 1))
            told = first_meeting(table, one, second)
            self.assertLessEqual(Fraction(*told), ago)
            self.assertEqual(place_at(table, one, told), place_at(table, second, told))
            self.assertGreaterEqual(count_meetings(table, one, second, (ago, 1)), 1)

    def test_together_with_forty_digits(self):
        table = (GREAT, GREAT - 2)
        shot = (GREAT, 10 ** 39, 10 ** 39 + 7, -GREAT)
        self.assertIs(are_together(table, shot, (GREAT, 10 ** 39, -(10 ** 39) - 7, -GREAT)), True)
        self.assertIs(are_together(table, shot, (GREAT, 10 ** 39, -(10 ** 39) - 6, -GREAT)), False)
        self.assertIs(are_together(table, shot, (GREAT - 1, 10 ** 39, -(10 ** 39) - 7, -GREAT)), False)

    def test_counts_of_few_great_meetings(self):
        """All meetings up to a time that is great, found pair by pair of sums and differences."""
        chance = Random(50)
        for _ in range(15):
            table = (chance.randint(1, 60) * 10 ** 38, chance.randint(1, 60) * 10 ** 38)
            places = [(chance.randint(0, table[0]), chance.randint(0, table[1])) for _ in range(2)]
            shot, other = [place + some_shot(chance, (1, 1), 6)[2:] for place in places]
            other = (other[0], shot[1], other[2] or 1, shot[3])
            if are_together(table, shot, other):
                continue
            until = Fraction(20 * lcm(table[0], table[1]), 7)
            times = set()
            for a, b in ((shot[0] - other[0], shot[2] - other[2]), (shot[0] + other[0], shot[2] + other[2])):
                if b:
                    last = abs(a + b * until) // (2 * table[0]) + 2
                    times |= {Fraction(2 * table[0] * k - a, b) for k in range(-last, last + 1)}
                elif a % (2 * table[0]) == 0:
                    self.fail("the numbers are always the same")
            # The second numbers are always the same.
            wanted = [time for time in times if 0 <= time <= until]
            self.assertEqual(count_meetings(table, shot, other, pair(until)), len(wanted))


if __name__ == "__main__":
    unittest.main()
