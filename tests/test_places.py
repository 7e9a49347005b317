"""Tables, shots, fractions, places and ways ([4], [5], [7], [8])."""

import unittest
from fractions import Fraction
from random import Random

from cushionshots.places import (
    crossed, folded, is_fraction, is_shot, is_table, place_at, scaled, shot_at, turned, way_at,
)
from tests.quick import Watched
from tests.slow import Roll, all_shots, fold, pair, some_shot, some_shots

T, S = (4, 2), (1, 0, 1, 1)


class ExamplesTest(Watched):
    def test_examples_of_section_3(self):
        self.assertEqual(folded(4, (11, 1)), (3, 1))
        self.assertEqual(folded(4, (-1, 2)), (1, 2))
        self.assertEqual(place_at(T, S, (7, 2)), ((7, 2), (1, 2)))
        self.assertEqual(way_at(T, S, (3, 1)), (-1, -1))
        self.assertEqual(shot_at(T, S, (4, 1)), (3, 0, -1, 1))


class KindsTest(Watched):
    def test_tables(self):
        for value in ((1, 1), (4, 2), (10 ** 40, 1), (1, 10 ** 40)):
            self.assertIs(is_table(value), True)

    def test_shots(self):
        for value in ((0, 0, 1, 0), (4, 2, 0, -1), (4, 0, -5, 7), (0, 2, -1, 0), (1, 1, 10 ** 40, -(10 ** 40))):
            self.assertIs(is_shot(T, value), True)
        for value in ((5, 0, 1, 1), (0, 3, 1, 1), (-1, 0, 1, 1), (0, -1, 1, 1), (1, 1, 0, 0), (2, 4, 1, 1)):
            self.assertIs(is_shot(T, value), False)
        self.assertIs(is_shot((2, 4), (2, 4, 1, 1)), True)

    def test_fractions(self):
        for value in ((0, 1), (1, 1), (-3, 1), (2, 3), (-2, 3), (10 ** 40, 10 ** 40 + 1)):
            self.assertIs(is_fraction(value), True)
        for value in ((0, 2), (0, 0), (1, 0), (2, 2), (2, 4), (-2, 4), (1, -1), (-1, -1), (6, 9), (10 ** 40, 10)):
            self.assertIs(is_fraction(value), False)


class FoldedTest(Watched):
    def test_small_numbers_by_steps_of_twice_the_side(self):
        for side in range(1, 5):
            for top in range(-30, 31):
                for bottom in range(1, 5):
                    rest = Fraction(top, bottom)
                    while rest < 0:
                        rest += 2 * side
                    while rest >= 2 * side:
                        rest -= 2 * side
                    wanted = pair(rest if rest <= side else 2 * side - rest)
                    self.assertEqual(folded(side, pair(Fraction(top, bottom))), wanted)

    def test_edges(self):
        self.assertEqual([folded(4, (4 * k, 1)) for k in range(-2, 3)], [(0, 1), (4, 1), (0, 1), (4, 1), (0, 1)])
        self.assertEqual(folded(1, (0, 1)), (0, 1))
        self.assertEqual(folded(1, (3, 2)), (1, 2))

    def test_great_numbers(self):
        chance = Random(3)
        for _ in range(50):
            side = chance.randint(1, 10 ** 40)
            number = Fraction(chance.randint(-(10 ** 40), 10 ** 40), chance.randint(1, 10 ** chance.randint(0, 40)))
            self.assertEqual(folded(side, pair(number)), pair(fold(side, number)))


class RollTest(Watched):
    def hold_against(self, table, shot, times):
        roll = Roll(table, shot)
        for time in times:
            place, way = roll.state(time)
            at = pair(time)
            self.assertEqual(place_at(table, shot, at), (pair(place[0]), pair(place[1])), (table, shot, at))
            self.assertEqual(way_at(table, shot, at), way, (table, shot, at))
            wanted = None
            if place[0].denominator == 1 and place[1].denominator == 1:
                wanted = (place[0].numerator, place[1].numerator) + way
            self.assertEqual(shot_at(table, shot, at), wanted, (table, shot, at))

    def test_small_shots_by_rolling(self):
        times = [Fraction(top, bottom) for bottom in (1, 2, 3) for top in range(-7, 8)]
        for table in ((1, 1), (1, 2), (2, 1), (3, 2)):
            for shot in all_shots(table, 2):
                self.hold_against(table, shot, times)

    def test_at_hits_and_beside_them(self):
        little = Fraction(1, 1000)
        for table, shot in some_shots(4, 60):
            times = [hit[0] for hit in Roll(table, shot).hits[:12]]
            around = [one for time in times for one in (time - little, time, time + little, -time, -time - little)]
            self.hold_against(table, shot, around + [Fraction(0), -little, little])

    def test_edges_of_ways(self):
        self.assertEqual(way_at(T, (4, 2, 1, 1), (0, 1)), (-1, -1))
        self.assertEqual(way_at(T, (0, 0, -3, -5), (0, 1)), (3, 5))
        self.assertEqual(way_at(T, (0, 0, 3, 0), (0, 1)), (3, 0))
        self.assertEqual(way_at(T, (4, 0, 0, -1), (0, 1)), (0, 1))
        self.assertEqual(way_at(T, (4, 1, 0, -1), (0, 1)), (0, -1))
        self.assertEqual(way_at(T, S, (-1, 1)), (1, -1))
        self.assertEqual(way_at(T, S, (-2, 1)), (-1, -1))

    def test_shot_at_goes_on_as_the_shot_does(self):
        for table, shot in some_shots(5, 60):
            for time in range(-6, 7):
                later = shot_at(table, shot, (time, 1))
                self.assertTrue(is_shot(table, later))
                for more in (Fraction(0), Fraction(1, 3), Fraction(5, 2), Fraction(9)):
                    after = pair(time + more)
                    self.assertEqual(place_at(table, later, pair(more)), place_at(table, shot, after))
                    self.assertEqual(way_at(table, later, pair(more)), way_at(table, shot, after))

    def test_shot_at_a_broken_time_with_integers(self):
        self.assertEqual(shot_at(T, (1, 0, 2, 4), (1, 2)), (2, 2, 2, -4))
        self.assertEqual(shot_at(T, (1, 0, 0, 3), (1, 3)), (1, 1, 0, 3))
        self.assertIsNone(shot_at(T, (1, 0, 2, 1), (1, 2)))
        self.assertIsNone(shot_at(T, (1, 0, 1, 2), (1, 2)))


class GreatTest(Watched):
    def test_places_and_ways_of_forty_digits(self):
        chance = Random(6)
        great = 10 ** 40 - 1
        for _ in range(100):
            table = (chance.randint(1, great), chance.randint(1, great))
            shot = some_shot(chance, table, great)
            time = Fraction(chance.randint(-great, great), chance.choice((1, 2, chance.randint(1, great))))
            place = [fold(table[at], shot[at] + shot[at + 2] * time) for at in (0, 1)]
            self.assertEqual(place_at(table, shot, pair(time)), (pair(place[0]), pair(place[1])))
            # So little that no number passes a multiple of a side or a half place in it.
            little = Fraction(1, 10 ** 90)
            beside = [fold(table[at], shot[at] + shot[at + 2] * (time + little)) for at in (0, 1)]
            way = tuple(int((beside[at] - place[at]) / little) for at in (0, 1))
            self.assertEqual(way_at(table, shot, pair(time)), way)
            wanted = None
            if place[0].denominator == 1 and place[1].denominator == 1:
                wanted = (int(place[0]), int(place[1])) + way
            self.assertEqual(shot_at(table, shot, pair(time)), wanted)

    def test_great_ways_exactly_at_cushions(self):
        side, other = 10 ** 39 + 7, 10 ** 38 + 3
        for many in (10 ** 38, 10 ** 38 + 1):
            sign = 1 if many % 2 == 0 else -1
            time = pair(Fraction(side * many, 7))
            self.assertEqual(way_at((side, other), (0, 1, 7, 0), time), (7 * sign, 0))
            self.assertEqual(way_at((side, other), (0, 1, -7, 0), time), (7 * sign, 0))


class ChangedTest(Watched):
    def test_turned(self):
        self.assertEqual(turned((1, 0, 1, 1)), (1, 0, -1, -1))
        self.assertEqual(turned((0, 9, 0, -3)), (0, 9, 0, 3))
        self.assertEqual(turned((10 ** 40, 0, -5, 0)), (10 ** 40, 0, 5, 0))

    def test_turned_goes_back(self):
        for table, shot in some_shots(7, 40):
            for time in (Fraction(0), Fraction(3, 2), Fraction(-5, 3), Fraction(8)):
                self.assertEqual(place_at(table, turned(shot), pair(time)), place_at(table, shot, pair(-time)))

    def test_scaled(self):
        self.assertEqual(scaled(T, S, 1), (T, S))
        self.assertEqual(scaled(T, (3, 1, -2, 5), 10), ((40, 20), (30, 10, -2, 5)))
        self.assertEqual(scaled((1, 2), (0, 2, 0, 1), 10 ** 40), ((10 ** 40, 2 * 10 ** 40), (0, 2 * 10 ** 40, 0, 1)))

    def test_crossed(self):
        self.assertEqual(crossed(T, (3, 1, -2, 5)), ((2, 4), (1, 3, 5, -2)))
        self.assertEqual(crossed(T, (4, 0, 0, 5)), ((2, 4), (0, 4, 5, 0)))


if __name__ == "__main__":
    unittest.main()
