"""Hits one by one and counted ([6], [9])."""

import unittest
from fractions import Fraction
from math import gcd
from random import Random

from cushionshots.hits import count_cushion, count_hits, hit_words, hits, nth_hit
from cushionshots.places import place_at, scaled
from tests.quick import Watched
from tests.slow import Roll, all_shots, pair, some_shot, some_shots

T, S = (4, 2), (1, 0, 1, 1)
LITTLE = Fraction(1, 1000)


def taken(generator, many):
    """The first values of a generator."""
    return [next(generator) for _ in range(many)]


class ExamplesTest(Watched):
    def test_examples_of_section_4(self):
        self.assertEqual(hit_words(T, S, 6), ["N", "E", "S", "N", "W", "S"])
        self.assertEqual(nth_hit(T, S, 1), ((3, 1), "E", ((4, 1), (1, 1))))
        self.assertEqual(count_hits(T, S, (7, 1)), 5)
        self.assertEqual(count_cushion(T, S, "S", (16, 1)), 4)


class RollTest(Watched):
    def hold_against(self, table, shot, rounds=1):
        roll = Roll(table, shot, rounds)
        listed = roll.listed_hits()
        self.assertEqual(taken(hits(table, shot), len(listed)), listed, (table, shot))
        self.assertEqual([nth_hit(table, shot, at) for at in range(len(listed))], listed, (table, shot))
        many = min(60, len(listed))
        self.assertEqual(hit_words(table, shot, many), [word for _, word, _ in listed[:many]], (table, shot))
        for index, (time, _, _) in enumerate(roll.hits):
            self.assertEqual(count_hits(table, shot, pair(time)), index + 1, (table, shot, time))
            self.assertEqual(count_hits(table, shot, pair(time - LITTLE)), index, (table, shot, time))
            if time + LITTLE < roll.until:
                self.assertEqual(count_hits(table, shot, pair(time + LITTLE)), index + 1, (table, shot, time))
        return roll

    def test_all_small_shots(self):
        for table in ((1, 1), (1, 2), (2, 1), (2, 3)):
            for shot in all_shots(table, 2):
                self.hold_against(table, shot)

    def test_some_shots(self):
        for table, shot in some_shots(11, 40):
            self.hold_against(table, shot)

    def test_more_than_a_round(self):
        for table, shot in some_shots(12, 15, 3, 3):
            self.hold_against(table, shot, 3)

    def test_times_of_any_kind(self):
        chance = Random(13)
        for table, shot in some_shots(13, 60):
            roll = Roll(table, shot)
            for _ in range(15):
                time = Fraction(chance.randint(-9, 60), chance.randint(1, 9)) % roll.until
                self.assertEqual(count_hits(table, shot, pair(time)), roll.count(time))
                self.assertEqual(count_hits(table, shot, pair(-time)), 0)
                for cushion in "WESN":
                    self.assertEqual(count_cushion(table, shot, cushion, pair(time)), roll.count(time, cushion))
                    self.assertEqual(count_cushion(table, shot, cushion, pair(-time)), 0)

    def test_count_cushion_at_hits_and_beside_them(self):
        for table, shot in some_shots(14, 60, 4, 4):
            roll = Roll(table, shot)
            for time, _, _ in roll.hits[:20]:
                for near in (time - LITTLE, time, min(time + LITTLE, roll.until)):
                    for cushion in "WESN":
                        wanted = roll.count(near, cushion)
                        self.assertEqual(count_cushion(table, shot, cushion, pair(near)), wanted, (table, shot, near))


class EdgesTest(Watched):
    def test_the_start_is_no_hit(self):
        for shot in ((0, 0, 1, 1), (4, 2, 1, 1), (0, 2, -1, 1), (4, 0, -1, 0), (0, 1, -2, 0), (2, 2, 0, 5)):
            for time in ((0, 1), (-1, 1), (-7, 3), (1, 1000)):
                self.assertEqual(count_hits(T, shot, time), 0)
                self.assertEqual([count_cushion(T, shot, cushion, time) for cushion in "WESN"], [0, 0, 0, 0])

    def test_along_a_cushion(self):
        self.assertEqual(hit_words(T, (1, 0, 1, 0), 4), ["E", "W", "E", "W"])
        self.assertEqual(hit_words(T, (1, 2, -1, 0), 3), ["W", "E", "W"])
        self.assertEqual(hit_words(T, (0, 1, 0, 1), 3), ["N", "S", "N"])
        self.assertEqual(hit_words(T, (4, 1, 0, -1), 3), ["S", "N", "S"])
        self.assertEqual(count_cushion(T, (1, 0, 1, 0), "S", (100, 1)), 0)
        self.assertEqual(count_cushion(T, (1, 2, 1, 0), "N", (100, 1)), 0)
        self.assertEqual(count_cushion(T, (0, 1, 0, 1), "W", (100, 1)), 0)
        self.assertEqual(nth_hit(T, (1, 0, 1, 0), 0), ((3, 1), "E", ((4, 1), (0, 1))))

    def test_off_a_cushion_whatever_the_sign(self):
        for shot in ((0, 1, 2, 0), (0, 1, -2, 0)):
            self.assertEqual(hit_words(T, shot, 3), ["E", "W", "E"])
            self.assertEqual(nth_hit(T, shot, 0), ((2, 1), "E", ((4, 1), (1, 1))))
        for shot in ((4, 2, 1, 3), (4, 2, -1, -3), (4, 2, 1, -3)):
            self.assertEqual(nth_hit(T, shot, 0), ((2, 3), "S", ((10, 3), (0, 1))))

    def test_corners(self):
        shot = (1, 1, 1, 1)
        self.assertEqual(hit_words((2, 2), shot, 3), ["EN", "WS", "EN"])
        self.assertEqual(nth_hit((2, 2), shot, 1), ((3, 1), "WS", ((0, 1), (0, 1))))
        self.assertEqual(count_hits((2, 2), shot, (3, 1)), 2)
        self.assertEqual([count_cushion((2, 2), shot, cushion, (3, 1)) for cushion in "WESN"], [1, 1, 1, 1])
        self.assertEqual(hit_words(T, (0, 0, 2, -1), 3), ["EN", "WS", "EN"])
        self.assertEqual(hit_words(T, (0, 2, 2, 1), 2), ["ES", "WN"])
        self.assertEqual(hit_words(T, (1, 1, 1, 1), 4), ["N", "ES", "N", "WS"])

    def test_none_of_the_words(self):
        self.assertEqual(hit_words(T, S, 0), [])
        self.assertEqual(hit_words(T, S, 1), ["N"])

    def test_broken_times_and_places(self):
        self.assertEqual(nth_hit((3, 5), (1, 1, 2, 3), 0), ((1, 1), "E", ((3, 1), (4, 1))))
        self.assertEqual(nth_hit((3, 5), (1, 1, 2, 3), 1), ((4, 3), "N", ((7, 3), (5, 1))))

    def test_two_generators_side_by_side(self):
        one, other, third = hits(T, S), hits(T, S), hits((3, 5), (1, 1, 2, 3))
        mixed = []
        for _ in range(8):
            mixed.append((next(one), next(third)))
        self.assertEqual([told[0] for told in mixed], taken(other, 8))
        self.assertEqual([told[1] for told in mixed], taken(hits((3, 5), (1, 1, 2, 3)), 8))
        self.assertEqual(next(one), next(other))

    def test_generator_goes_on_long(self):
        generator = hits(T, S)
        last = taken(generator, 3000)[-1]
        self.assertEqual(last, nth_hit(T, S, 2999))


def count_by_congruence(table, shot, time):
    """The number of hits from multiples in a range, and of corners by the rest that solves two congruences."""
    if time <= 0:
        return 0
    (w, h), (x, y, p, q) = table, shot
    total = 0
    for side, start, speed in ((w, x, p), (h, y, q)):
        if speed < 0:
            start, speed = -start, -speed
        total += (start + speed * time) // side - start // side
    if p == 0 or q == 0:
        return total
    x, p = (x, p) if p > 0 else (-x, -p)
    y, q = (y, q) if q > 0 else (-y, -q)
    # x + p t = w i and y + q t = h j, so q w i = q x - p y modulo p h.
    common = gcd(q * w, p * h)
    if (q * x - p * y) % common:
        return total
    step = p * h // common
    rest = (q * x - p * y) // common * pow(q * w // common, -1, step) % step
    last, before = (x + p * time) // w, x // w
    return total - ((last - rest) // step - (before - rest) // step)


class GreatTest(Watched):
    def test_counts_of_forty_digits(self):
        chance = Random(15)
        great = 10 ** 40 - 1
        for number in range(120):
            table = (chance.randint(1, great), chance.randint(1, great))
            shot = some_shot(chance, table, great)
            if number % 3 == 0:
                many = chance.randint(1, great)
                table, shot = (many * chance.randint(1, 9), many * chance.randint(1, 9)), (0, many) + shot[2:]
            time = Fraction(chance.randint(1, great), chance.choice((1, chance.randint(1, great))))
            self.assertEqual(count_hits(table, shot, pair(time)), count_by_congruence(table, shot, time))
            letters = [count_cushion(table, shot, cushion, pair(time)) for cushion in "WESN"]
            for at in (0, 1):
                start, speed = shot[at], abs(shot[at + 2])
                start = start if shot[at + 2] >= 0 else -start
                end = start + speed * time
                for odd in (0, 1):
                    shift, step = odd * table[at], 2 * table[at]
                    wanted = (end - shift) // step - (start - shift) // step
                    self.assertEqual(letters[2 * at + odd], wanted)

    def test_hits_of_forty_digits(self):
        chance = Random(16)
        great = 10 ** 40 - 1
        for _ in range(25):
            table = (chance.randint(1, great), chance.randint(1, great))
            shot = some_shot(chance, table, chance.choice((9, great)))
            index = chance.randint(0, great)
            time, word, place = nth_hit(table, shot, index)
            exact = Fraction(*time)
            self.assertEqual(pair(exact), time)
            little = Fraction(1, 10 ** 180)
            self.assertEqual(count_by_congruence(table, shot, exact), index + 1)
            self.assertEqual(count_by_congruence(table, shot, exact - little), index)
            self.assertEqual(place, place_at(table, shot, time))
            for cushion in "WESN":
                ahead = count_cushion(table, shot, cushion, pair(exact - little))
                self.assertEqual(count_cushion(table, shot, cushion, time) - ahead, int(cushion in word))

    def test_hits_many_rounds_later(self):
        chance = Random(17)
        for table, shot in some_shots(17, 30, 4, 4):
            roll = Roll(table, shot)
            rounds = chance.randint(1, 10 ** 39)
            for index in (0, 1, len(roll.hits) - 1, chance.randrange(len(roll.hits))):
                time, word, (x, y) = roll.hits[index]
                wanted = (pair(time + rounds * roll.round), word, (pair(x), pair(y)))
                self.assertEqual(nth_hit(table, shot, index + rounds * len(roll.hits)), wanted, (table, shot))

    def test_all_hits_are_corners(self):
        side = 10 ** 39 + 9
        index = 10 ** 39
        wanted = ((side * (index + 1), 1), "EN", ((side, 1), (side, 1)))
        self.assertEqual(nth_hit((side, side), (0, 0, 1, 1), index), wanted)
        self.assertEqual(count_hits((side, side), (0, 0, -1, 1), (side * index, 1)), index)
        self.assertEqual(count_hits((side, side), (0, 0, -1, 1), (side * index - 1, 1)), index - 1)

    def test_scaled_shots_have_the_same_words(self):
        chance = Random(18)
        for table, shot in some_shots(18, 20):
            many = chance.randint(1, 10 ** 39)
            great_table, great_shot = scaled(table, shot, many)
            self.assertEqual(hit_words(great_table, great_shot, 60), hit_words(table, shot, 60))
            for small, great in zip(taken(hits(table, shot), 30), taken(hits(great_table, great_shot), 30)):
                self.assertEqual(pair(Fraction(*small[0]) * many), great[0])
                self.assertEqual(small[1], great[1])
                self.assertEqual(tuple(pair(Fraction(*one) * many) for one in small[2]), great[2])

    def test_faster_shots_have_the_same_words(self):
        for table, shot in some_shots(19, 20):
            fast = shot[:2] + (shot[2] * 10 ** 38, shot[3] * 10 ** 38)
            self.assertEqual(hit_words(table, fast, 60), hit_words(table, shot, 60))
            time, word, place = nth_hit(table, shot, 10 ** 30)
            self.assertEqual(nth_hit(table, fast, 10 ** 30), (pair(Fraction(*time) / 10 ** 38), word, place))

    def test_answers_may_be_passed_back(self):
        table, shot = (10 ** 39 + 7, 10 ** 40 - 3), (10 ** 38, 10 ** 37 + 1, 10 ** 39 + 3, -(10 ** 40) + 9)
        time = nth_hit(table, shot, 10 ** 40 - 1)[0]
        self.assertEqual(count_hits(table, shot, time), 10 ** 40)
        later = count_hits(table, shot, (time[0] * 10 ** 40 // time[1], 1))
        self.assertEqual(count_hits(table, shot, nth_hit(table, shot, later)[0]), later + 1)


if __name__ == "__main__":
    unittest.main()
