"""Rounds and corners ([10])."""

import unittest
from fractions import Fraction
from math import gcd
from random import Random

from cushionshots.hits import count_cushion, nth_hit
from cushionshots.places import crossed, place_at, scaled, turned, way_at
from cushionshots.rounds import corner_hit, round_hits, round_time
from tests.quick import Watched
from tests.slow import Roll, all_shots, pair, some_shot, some_shots

T, S = (4, 2), (1, 0, 1, 1)
GREAT = 10 ** 40 - 1


class ExamplesTest(Watched):
    def test_examples_of_section_4(self):
        self.assertEqual(round_time(T, S), (8, 1))
        self.assertEqual(round_hits(T, S), (1, 1, 2, 2))
        self.assertIsNone(corner_hit(T, S))
        self.assertEqual(corner_hit(T, (1, 1, 1, 1)), 1)


class RollTest(Watched):
    def hold_against(self, table, shot):
        roll = Roll(table, shot)
        time = roll.first_return()
        self.assertEqual(round_time(table, shot), pair(time), (table, shot))
        wanted = tuple(roll.count(time, cushion) for cushion in "WESN")
        self.assertEqual(round_hits(table, shot), wanted, (table, shot))
        corners = [at for at, (_, word, _) in enumerate(roll.hits) if len(word) == 2]
        self.assertEqual(corner_hit(table, shot), corners[0] if corners else None, (table, shot))

    def test_all_small_shots(self):
        for table in ((1, 1), (1, 2), (2, 1), (2, 3)):
            for shot in all_shots(table, 3):
                self.hold_against(table, shot)

    def test_some_shots(self):
        for table, shot in some_shots(31, 150, 7, 9):
            self.hold_against(table, shot)


class EdgesTest(Watched):
    def test_along_a_cushion(self):
        for shot in ((1, 0, 1, 0), (0, 2, -1, 0), (4, 1, 1, 0)):
            self.assertEqual(round_time(T, shot), (8, 1))
            self.assertEqual(round_hits(T, shot), (1, 1, 0, 0))
            self.assertIsNone(corner_hit(T, shot))
        for shot in ((0, 1, 0, 3), (4, 2, 0, -3), (1, 0, 0, 3)):
            self.assertEqual(round_time(T, shot), (4, 3))
            self.assertEqual(round_hits(T, shot), (0, 0, 1, 1))
            self.assertIsNone(corner_hit(T, shot))

    def test_broken_rounds(self):
        self.assertEqual(round_time((3, 5), (1, 1, 4, 6)), (15, 1))
        self.assertEqual(round_time((3, 5), (1, 1, 9, 15)), (2, 3))
        self.assertEqual(round_hits((3, 5), (1, 1, 9, 15)), (1, 1, 1, 1))
        self.assertEqual(round_time((1, 1), (0, 0, 4, -6)), (1, 1))
        self.assertEqual(round_hits((1, 1), (0, 0, 4, -6)), (2, 2, 3, 3))

    def test_corners(self):
        self.assertEqual(corner_hit((2, 2), (1, 1, 1, 1)), 0)
        self.assertEqual(corner_hit((2, 2), (0, 0, 1, 1)), 0)
        self.assertEqual(corner_hit((1, 1), (0, 0, 2, 3)), 3)
        self.assertEqual(corner_hit((1, 1), (1, 0, -2, 3)), 3)
        self.assertIsNone(corner_hit((1, 2), (0, 1, 1, 2)))
        self.assertEqual(corner_hit((1, 2), (0, 1, 2, 1)), 1)

    def test_the_start_in_a_corner_is_no_hit(self):
        for start in ((0, 0), (4, 0), (0, 2), (4, 2)):
            for way in ((2, 1), (-2, 1), (2, -1), (-2, -1)):
                self.assertEqual(corner_hit(T, start + way), 0)
            for way in ((1, 1), (-1, 1), (1, -1), (-1, -1)):
                self.assertEqual(corner_hit(T, start + way), 1)


class GreatTest(Watched):
    def shots(self, seed, many):
        chance = Random(seed)
        for number in range(many):
            table = (chance.randint(1, GREAT), chance.randint(1, GREAT))
            shot = some_shot(chance, table, GREAT)
            if number % 3 == 1:
                shot = shot[:2] + chance.choice(((0, shot[2] or 1), (shot[3] or 1, 0)))
            yield table, shot

    def test_rounds_of_forty_digits(self):
        for table, shot in self.shots(32, 120):
            top, bottom = round_time(table, shot)
            self.assertEqual(gcd(top, bottom), 1)
            turns = [Fraction(top * abs(shot[at + 2]), bottom * 2 * table[at]) for at in (0, 1)]
            self.assertEqual([turn.denominator for turn in turns], [1, 1])
            # Whole turns of both without a common divisor: no shorter time has whole turns of both.
            self.assertEqual(gcd(turns[0].numerator, turns[1].numerator), 1)
            wanted = (turns[0], turns[0], turns[1], turns[1])
            self.assertEqual(round_hits(table, shot), wanted)
            self.assertEqual([count_cushion(table, shot, cushion, (top, bottom)) for cushion in "WESN"], list(wanted))
            later = pair(Fraction(top, bottom) + Fraction(10 ** 35, 7))
            self.assertEqual(place_at(table, shot, later), place_at(table, shot, (10 ** 35, 7)))
            self.assertEqual(way_at(table, shot, later), way_at(table, shot, (10 ** 35, 7)))

    def corner_time(self, table, shot):
        """The time of the first corner by the inverse of a number in a circle, or None."""
        (w, h), (x, y, p, q) = table, shot
        if p == 0 or q == 0:
            return None
        x, p = (x, p) if p > 0 else (-x, -p)
        y, q = (y, q) if q > 0 else (-y, -q)
        common = gcd(q * w, p * h)
        if (q * x - p * y) % common:
            return None
        step = p * h // common
        rest = (q * x - p * y) // common * pow(q * w // common, -1, step) % step
        mark = x // w + 1 + (rest - x // w - 1) % step
        return Fraction(w * mark - x, p)

    def test_corners_of_forty_digits(self):
        found = 0
        for table, shot in self.shots(33, 150):
            time = self.corner_time(table, shot)
            index = corner_hit(table, shot)
            if time is None:
                self.assertIsNone(index)
                continue
            found += 1
            told, word, _ = nth_hit(table, shot, index)
            self.assertEqual((told, len(word)), (pair(time), 2))
        self.assertGreater(found, 30)

    def test_scaled_and_faster_shots(self):
        chance = Random(34)
        for table, shot in some_shots(34, 40):
            many = chance.randint(1, 10 ** 39)
            great_table, great_shot = scaled(table, shot, many)
            fast_shot = great_shot[:2] + (shot[2] * 10 ** 38, shot[3] * 10 ** 38)
            time = Fraction(*round_time(table, shot)) * many
            self.assertEqual(round_time(great_table, great_shot), pair(time))
            self.assertEqual(round_time(great_table, fast_shot), pair(time / 10 ** 38))
            for one in (great_shot, fast_shot):
                self.assertEqual(round_hits(great_table, one), round_hits(table, shot))
                self.assertEqual(corner_hit(great_table, one), corner_hit(table, shot))

    def test_crossed_and_turned_shots(self):
        for table, shot in self.shots(35, 40):
            other_table, other_shot = crossed(table, shot)
            west, east, south, north = round_hits(table, shot)
            self.assertEqual(round_hits(other_table, other_shot), (south, north, west, east))
            self.assertEqual(corner_hit(other_table, other_shot), corner_hit(table, shot))
            self.assertEqual(round_time(table, turned(shot)), round_time(table, shot))


if __name__ == "__main__":
    unittest.main()
