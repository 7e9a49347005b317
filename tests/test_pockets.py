"""Spots, boxes and stretches ([11], [12], [13])."""

import unittest
from fractions import Fraction
from math import gcd
from random import Random

from cushionshots.hits import count_cushion, count_hits, hits, nth_hit
from cushionshots.places import crossed, place_at, scaled
from cushionshots.pockets import count_in_stretch, first_at, first_in_box, first_in_stretch, first_pocket
from tests.quick import Watched
from tests.slow import Roll, all_shots, least_within, pair, some_box, some_shot, some_shots, some_stretch

T, S = (4, 2), (1, 0, 1, 1)
LITTLE = Fraction(1, 1000)


def all_stretches(table):
    """Every stretch of a table."""
    width, height = table
    return [
        (cushion, low, high)
        for cushion, side in (("W", height), ("E", height), ("S", width), ("N", width))
        for low in range(side + 1)
        for high in range(low, side + 1)
    ]


def all_boxes(table):
    """Every box of a table."""
    width, height = table
    return [
        (left, right, low, high)
        for left in range(width + 1)
        for right in range(left, width + 1)
        for low in range(height + 1)
        for high in range(low, height + 1)
    ]


class ExamplesTest(Watched):
    def test_examples_of_section_5(self):
        self.assertEqual(first_at(T, S, (3, 0)), (4, 1))
        self.assertIsNone(first_at(T, S, (2, 2)))
        self.assertEqual(first_in_box(T, S, (2, 3, 0, 1)), (1, 1))
        self.assertEqual(first_in_stretch(T, S, ("W", 0, 1)), 4)


class SpotsAndBoxesTest(Watched):
    def test_all_small_spots_and_boxes(self):
        for table in ((1, 1), (1, 2), (2, 2)):
            for shot in all_shots(table, 2):
                roll = Roll(table, shot)
                for box in all_boxes(table):
                    wanted = roll.first_in_box(box)
                    self.assertEqual(first_in_box(table, shot, box), wanted, (table, shot, box))
                    if box[0] == box[1] and box[2] == box[3]:
                        spot = (box[0], box[2])
                        self.assertEqual(first_at(table, shot, spot), wanted, (table, shot, spot))

    def test_all_spots_of_some_shots(self):
        for table, shot in some_shots(21, 60):
            roll = Roll(table, shot)
            for x in range(table[0] + 1):
                for y in range(table[1] + 1):
                    self.assertEqual(first_at(table, shot, (x, y)), roll.first_in_box((x, x, y, y)), (table, shot, x, y))

    def test_boxes_of_some_shots(self):
        chance = Random(22)
        for table, shot in some_shots(22, 150):
            roll = Roll(table, shot)
            for _ in range(10):
                box = some_box(chance, table)
                self.assertEqual(first_in_box(table, shot, box), roll.first_in_box(box), (table, shot, box))

    def test_the_start_is_at_time_0(self):
        for shot in ((1, 0, 1, 1), (0, 0, -1, -1), (4, 2, 0, 1), (2, 1, -3, 0)):
            x, y = shot[:2]
            self.assertEqual(first_at(T, shot, (x, y)), (0, 1))
            for box in ((x, x, y, y), (0, 4, 0, 2), (x, 4, 0, y), (0, x, y, 2)):
                self.assertEqual(first_in_box(T, shot, box), (0, 1))

    def test_edges_of_spots(self):
        self.assertEqual(first_at(T, (1, 1, 1, 0), (1, 1)), (0, 1))
        self.assertEqual(first_at(T, (1, 1, -2, 0), (4, 1)), (5, 2))
        self.assertIsNone(first_at(T, (1, 1, 1, 0), (2, 0)))
        self.assertEqual(first_at(T, (3, 1, 0, -3), (3, 2)), (1, 1))
        self.assertIsNone(first_at(T, (3, 1, 0, -3), (2, 1)))
        self.assertEqual(first_at(T, (1, 1, 1, 1), (4, 0)), (3, 1))
        self.assertIsNone(first_at(T, S, (0, 0)))
        self.assertEqual(first_at((2, 2), (1, 1, 2, 2), (2, 2)), (1, 2))

    def test_edges_of_boxes(self):
        self.assertEqual(first_in_box(T, (0, 0, 1, 0), (3, 3, 0, 2)), (3, 1))
        self.assertIsNone(first_in_box(T, (0, 0, 1, 0), (3, 3, 1, 2)))
        self.assertEqual(first_in_box(T, (0, 0, 1, 1), (0, 4, 1, 1)), (1, 1))
        self.assertEqual(first_in_box(T, (0, 0, 3, 1), (1, 1, 1, 2)), (7, 3))
        self.assertEqual(first_in_box(T, (0, 2, 2, 0), (1, 4, 2, 2)), (1, 2))
        self.assertEqual(first_in_box(T, (4, 0, 0, 5), (4, 4, 1, 2)), (1, 5))


class StretchesTest(Watched):
    def test_all_small_stretches(self):
        for table in ((1, 1), (1, 2), (2, 2), (3, 1)):
            stretches = all_stretches(table)
            for shot in all_shots(table, 2):
                roll = Roll(table, shot)
                for stretch in stretches:
                    wanted = roll.first_in_stretch(stretch)
                    self.assertEqual(first_in_stretch(table, shot, stretch), wanted, (table, shot, stretch))
                    for time in (Fraction(0), Fraction(1), Fraction(3, 2), Fraction(roll.round)):
                        count = roll.count_in_stretch(stretch, time)
                        told = count_in_stretch(table, shot, stretch, pair(time))
                        self.assertEqual(told, count, (table, shot, stretch, time))

    def test_counts_at_hits_and_beside_them(self):
        chance = Random(23)
        for table, shot in some_shots(23, 60):
            roll = Roll(table, shot)
            for _ in range(4):
                stretch = some_stretch(chance, table)
                self.assertEqual(first_in_stretch(table, shot, stretch), roll.first_in_stretch(stretch))
                for time in [hit[0] for hit in roll.hits if roll.in_stretch(hit, stretch)][:6]:
                    for near in (time - LITTLE, time, min(time + LITTLE, roll.until)):
                        count = roll.count_in_stretch(stretch, near)
                        self.assertEqual(count_in_stretch(table, shot, stretch, pair(near)), count)

    def test_counts_over_more_rounds(self):
        chance = Random(24)
        for table, shot in some_shots(24, 40, 3, 3):
            roll = Roll(table, shot, 3)
            for _ in range(6):
                stretch = some_stretch(chance, table)
                time = Fraction(chance.randint(0, 7 * roll.until), 7)
                self.assertEqual(count_in_stretch(table, shot, stretch, pair(time)), roll.count_in_stretch(stretch, time))

    def test_times_of_at_most_0(self):
        for shot in (S, (0, 0, -1, -1), (4, 2, 1, 0), (4, 2, 0, 1)):
            for stretch in all_stretches(T):
                for time in ((0, 1), (-1, 2), (-100, 1)):
                    self.assertEqual(count_in_stretch(T, shot, stretch, time), 0)

    def test_edges_of_stretches(self):
        self.assertIsNone(first_in_stretch(T, S, ("W", 0, 0)))
        self.assertIsNone(first_in_stretch(T, S, ("N", 2, 2)))
        self.assertEqual(first_in_stretch(T, S, ("N", 0, 2)), 3)
        self.assertEqual(first_in_stretch(T, S, ("N", 0, 3)), 0)
        self.assertEqual(first_in_stretch(T, S, ("N", 3, 3)), 0)
        self.assertEqual(first_in_stretch(T, S, ("S", 3, 4)), 2)
        self.assertEqual(first_in_stretch(T, (0, 0, 1, 0), ("E", 0, 0)), 0)
        self.assertEqual(first_in_stretch(T, (0, 0, 1, 0), ("W", 0, 2)), 1)
        self.assertIsNone(first_in_stretch(T, (0, 0, 1, 0), ("S", 0, 4)))
        self.assertIsNone(first_in_stretch(T, (0, 0, 1, 0), ("E", 1, 2)))
        self.assertEqual(first_in_stretch(T, (4, 1, 0, -1), ("N", 4, 4)), 1)
        self.assertIsNone(first_in_stretch(T, (4, 1, 0, -1), ("E", 0, 2)))
        self.assertEqual(first_in_stretch(T, (1, 1, 1, 1), ("E", 0, 0)), 1)
        self.assertEqual(first_in_stretch(T, (1, 1, 1, 1), ("S", 4, 4)), 1)

    def test_a_corner_is_in_the_stretches_of_both_its_cushions(self):
        table, shot = (2, 2), (1, 1, 1, 1)
        for stretch in (("E", 2, 2), ("N", 2, 2), ("E", 0, 2), ("N", 1, 2)):
            self.assertEqual(first_in_stretch(table, shot, stretch), 0)
            self.assertEqual(count_in_stretch(table, shot, stretch, (5, 1)), 2)
        self.assertIsNone(first_in_stretch(table, shot, ("E", 0, 1)))


class PocketsTest(Watched):
    def test_lists_of_stretches_one_by_one(self):
        chance = Random(25)
        for table, shot in some_shots(25, 150):
            roll = Roll(table, shot)
            for many in (1, 2, 3, 5):
                stretches = [some_stretch(chance, table) for _ in range(many)]
                wanted = roll.first_pocket(stretches)
                self.assertEqual(first_pocket(table, shot, stretches), wanted, (table, shot, stretches))

    def test_edges_of_lists(self):
        self.assertIsNone(first_pocket(T, S, []))
        self.assertIsNone(first_pocket(T, S, [("W", 0, 0), ("N", 2, 2)]))
        self.assertEqual(first_pocket(T, S, [("W", 0, 1)]), (4, 0))
        self.assertEqual(first_pocket(T, S, [("W", 0, 0), ("W", 1, 2), ("W", 0, 1)]), (4, 1))
        self.assertEqual(first_pocket(T, S, [("N", 3, 3), ("N", 0, 4), ("N", 3, 3)]), (0, 0))
        self.assertEqual(first_pocket(T, S, [("S", 0, 4), ("E", 0, 2), ("N", 0, 1)]), (1, 1))

    def test_one_corner_and_several_stretches(self):
        table, shot = (2, 2), (1, 1, 1, 1)
        self.assertEqual(first_pocket(table, shot, [("W", 0, 2), ("N", 0, 2), ("E", 0, 2)]), (0, 1))
        self.assertEqual(first_pocket(table, shot, [("W", 0, 2), ("E", 0, 2), ("N", 0, 2)]), (0, 1))
        self.assertEqual(first_pocket(table, shot, [("E", 2, 2), ("N", 2, 2)]), (0, 0))


def stretch_question(table, shot, stretch):
    """The marks of one cushion (start, speed, step, first), and the question of [13] (grow, begin, circle, ranges)."""
    cushion, low, high = stretch
    at = 0 if cushion in "WE" else 1
    start, speed = shot[at], shot[at + 2]
    if speed < 0:
        start, speed = -start, -speed
    side, other = table[at], table[1 - at]
    shift = side if cushion in "EN" else 0
    first = ((start - shift) // (2 * side) + 1) * 2 * side + shift
    grow = 2 * side * shot[3 - at]
    begin = shot[1 - at] * speed + shot[3 - at] * (first - start)
    ranges = [(low * speed, high * speed), (-high * speed, -low * speed)]
    return start, speed, 2 * side, first, grow, begin, 2 * other * speed, ranges


def stretch_time(table, shot, stretch):
    """The time of the first hit in a stretch, found by halving; or None."""
    start, speed, step, first, grow, begin, circle, ranges = stretch_question(table, shot, stretch)
    if speed == 0:
        return None
    index = least_within(grow, begin, circle, ranges)
    return None if index is None else Fraction(first + step * index - start, speed)


def some_great(chance, digits):
    """A table and a shot of chance, with numbers of so many digits."""
    great = 10 ** digits - 1
    table = (chance.randint(great // 10, great), chance.randint(great // 10, great))
    return table, some_shot(chance, table, chance.choice((20, great, great)))


def some_great_stretch(chance, table):
    """A stretch of chance, broad, narrow or a point."""
    cushion = chance.choice("WESN")
    side = table[1] if cushion in "WE" else table[0]
    low = chance.randint(0, side)
    wide = chance.choice((0, side, side // 10 ** 6, side // 10 ** 12))
    return (cushion, low, min(side, low + wide))


class GreatStretchesTest(Watched):
    def test_first_of_twenty_digits_by_halving(self):
        chance = Random(31)
        for _ in range(60):
            table, shot = some_great(chance, 20)
            stretch = some_great_stretch(chance, table)
            time = stretch_time(table, shot, stretch)
            index = first_in_stretch(table, shot, stretch)
            if time is None:
                self.assertIsNone(index)
                continue
            self.assertEqual(index, count_hits(table, shot, pair(time)) - 1)
            self.assertEqual(nth_hit(table, shot, index)[0], pair(time))
            self.assertEqual(count_in_stretch(table, shot, stretch, pair(time)), 1)
            self.assertEqual(count_in_stretch(table, shot, stretch, pair(time - Fraction(1, 10 ** 50))), 0)

    def test_counts_over_whole_rounds(self):
        chance = Random(32)
        for number in range(40):
            table, shot = some_great(chance, 20)
            if number % 2:
                many = 10 ** 9 + number
                table, shot = scaled((table[0] // many, table[1] // many), (0, 0) + shot[2:], many)
            stretch = some_great_stretch(chance, table)
            _, speed, _, _, grow, begin, circle, ranges = stretch_question(table, shot, stretch)
            if speed == 0:
                continue
            # In the time 2 w h the rests run evenly through all that differ from begin by the common divisor.
            common = gcd(grow, circle)
            apart = sorted(set(ranges))
            inside = sum((high - begin) // common - (low - 1 - begin) // common for low, high in apart)
            cushion, low, high = stretch
            side = table[1] if cushion in "WE" else table[0]
            if len(apart) == 2:
                twice = [spot * speed for spot in (0, side) if spot in (low, high)]
                inside -= sum(1 for spot in twice if (spot - begin) % common == 0)
            rounds = chance.randint(1, 10 ** 9)
            time = (2 * table[0] * table[1] * rounds, 1)
            wanted = common // 2 * rounds * inside
            self.assertEqual(count_in_stretch(table, shot, stretch, time), wanted, (table, shot, stretch))

    def test_the_whole_cushion_is_its_count(self):
        chance = Random(33)
        for _ in range(40):
            table, shot = some_great(chance, 20)
            time = pair(Fraction(chance.randint(0, 10 ** 20), chance.randint(1, 10 ** 6)))
            for cushion, side in (("W", table[1]), ("E", table[1]), ("S", table[0]), ("N", table[0])):
                wanted = count_cushion(table, shot, cushion, time)
                self.assertEqual(count_in_stretch(table, shot, (cushion, 0, side), time), wanted)
                half = side // 2
                parts = [(cushion, 0, half), (cushion, half, side)]
                both = sum(count_in_stretch(table, shot, part, time) for part in parts)
                self.assertEqual(both - count_in_stretch(table, shot, (cushion, half, half), time), wanted)

    def test_slow_climb_along_a_cushion(self):
        height = 10 ** 19 + 1
        # At W the ball climbs by 2 from one hit to the next: 2 w q is 2 more than a multiple of 2 h.
        table, shot = (2, height), (0, 0, 1, (height + 1) // 2)
        for low in (2, 3, 10 ** 18, 10 ** 19):
            index = first_in_stretch(table, shot, ("W", low, low + 1))
            visits = -(-low // 2)
            self.assertEqual(index, count_hits(table, shot, (4 * visits, 1)) - 1)
            self.assertEqual(count_in_stretch(table, shot, ("W", 0, low - 1), (4 * visits, 1)), visits - 1)
        self.assertEqual(nth_hit(table, shot, index)[1][0], "W")

    def test_lists_of_twenty_stretches(self):
        chance = Random(34)
        for _ in range(12):
            table, shot = some_great(chance, 20)
            stretches = [some_great_stretch(chance, table) for _ in range(20)]
            times = [stretch_time(table, shot, stretch) for stretch in stretches]
            met = [time for time in times if time is not None]
            wanted = None
            if met:
                wanted = (count_hits(table, shot, pair(min(met))) - 1, times.index(min(met)))
            self.assertEqual(first_pocket(table, shot, stretches), wanted)

    def test_narrow_stretches_far_away(self):
        chance = Random(35)
        table, shot = (10 ** 19 + 51, 10 ** 20 - 11), (5, 7, 10 ** 19 + 3, 10 ** 19 - 9)
        stretches = []
        for _ in range(20):
            cushion = chance.choice("WESN")
            low = chance.randint(1, 10 ** 19)
            stretches.append((cushion, low, low))
        index, at = first_pocket(table, shot, stretches)
        firsts = [first_in_stretch(table, shot, stretch) for stretch in stretches]
        self.assertEqual(index, min(one for one in firsts if one is not None))
        self.assertEqual(first_in_stretch(table, shot, stretches[at]), index)
        _, word, place = nth_hit(table, shot, index)
        cushion, low, _ = stretches[at]
        self.assertIn(cushion, word)
        self.assertEqual(place[1 if cushion in "WE" else 0], (low, 1))


def box_time(table, shot, box):
    """The first time in a box, by halving over the hits of each of its sides by the free place; or None."""
    spots, ways = [], []
    for at in (0, 1):
        sign = 1 if shot[at + 2] >= 0 else -1
        spots.append(sign * shot[at])
        ways.append(sign * shot[at + 2])
    limits = (box[:2], box[2:])
    if all(limits[at][0] <= shot[at] <= limits[at][1] for at in (0, 1)):
        return Fraction(0)
    times = []
    for at in (0, 1):
        if ways[at] == 0:
            continue
        step = 2 * table[at]
        circle = 2 * table[1 - at] * ways[at]
        low, high = (limit * ways[at] for limit in limits[1 - at])
        for edge in (limits[at][0], -limits[at][1]):
            first = -((spots[at] - edge) // -step) * step + edge
            begin = spots[1 - at] * ways[at] + ways[1 - at] * (first - spots[at])
            index = least_within(ways[1 - at] * step, begin, circle, [(low, high), (-high, -low)])
            if index is not None:
                times.append(Fraction(first + step * index - spots[at], ways[at]))
    return min(times, default=None)


class GreatBoxesTest(Watched):
    def test_boxes_of_ten_digits_by_halving(self):
        chance = Random(41)
        for _ in range(60):
            table, shot = some_great(chance, 10)
            box = ()
            for side in table:
                low = chance.randint(0, side)
                box += (low, min(side, low + chance.choice((0, side, side // 100, side // 10 ** 5))))
            time = box_time(table, shot, box)
            told = first_in_box(table, shot, box)
            self.assertEqual(told, None if time is None else pair(time), (table, shot, box))
            if told is not None:
                place = [Fraction(*one) for one in place_at(table, shot, told)]
                self.assertTrue(box[0] <= place[0] <= box[1] and box[2] <= place[1] <= box[3])

    def test_spots_of_ten_digits(self):
        chance = Random(42)
        reached = 0
        for _ in range(60):
            table, shot = some_great(chance, 10)
            spot = (chance.randint(0, table[0]), chance.randint(0, table[1]))
            time = box_time(table, shot, (spot[0], spot[0], spot[1], spot[1]))
            told = first_at(table, shot, spot)
            self.assertEqual(told, None if time is None else pair(time), (table, shot, spot))
            if told is not None:
                reached += 1
                self.assertEqual(place_at(table, shot, told), ((spot[0], 1), (spot[1], 1)))
        self.assertGreater(reached, 10)

    def test_spots_on_the_way(self):
        chance = Random(43)
        for _ in range(40):
            table, shot = some_great(chance, 10)
            time = chance.randint(1, 10 ** 10)
            (x, _), (y, _) = place_at(table, shot, (time, 1))
            told = first_at(table, shot, (x, y))
            self.assertLessEqual(Fraction(*told), time)
            self.assertEqual(place_at(table, shot, told), ((x, 1), (y, 1)))
            self.assertEqual(pair(box_time(table, shot, (x, x, y, y))), told)

    def test_spots_after_very_many_hits(self):
        # At each hit at W the ball is 2 farther from S than at the one ahead of it, up to the height.
        table, shot = (10 ** 9 + 7, 10 ** 9 + 8), (0, 0, 1, 1)
        width, height = table
        for spot in (2, 1000, 10 ** 9, height - 2, height):
            self.assertEqual(first_at(table, shot, (0, spot)), (width * spot, 1))
            self.assertEqual(first_in_box(table, shot, (0, 0, spot - 1, spot)), (width * spot, 1))
        self.assertIsNone(first_at(table, shot, (0, 1)))
        self.assertIsNone(first_at(table, shot, (width, height)))

    def test_mirrors(self):
        chance = Random(44)
        for _ in range(20):
            table, (x, y, p, q) = some_great(chance, 10)
            width, height = table
            left, right = sorted((chance.randint(0, width), chance.randint(0, width)))
            low = chance.randint(0, height)
            box = (left, right, low, low)
            told = first_in_box(table, (x, y, p, q), box)
            self.assertEqual(first_in_box(table, (width - x, y, -p, q), (width - right, width - left, low, low)), told)
            turned_box = (left, right, height - low, height - low)
            self.assertEqual(first_in_box(table, (x, height - y, p, -q), turned_box), told)
            other_table, other_shot = crossed(table, (x, y, p, q))
            self.assertEqual(first_in_box(other_table, other_shot, (low, low, left, right)), told)


class AgreementTest(Watched):
    def test_stretches_agree_with_the_hits(self):
        generator = hits(T, (1, 1, 3, 2))
        for index in range(12):
            _, word, place = next(generator)
            for cushion in word:
                other = place[1 if cushion in "WE" else 0]
                if other[1] == 1:
                    stretch = (cushion, other[0], other[0])
                    self.assertLessEqual(first_in_stretch(T, (1, 1, 3, 2), stretch), index)


if __name__ == "__main__":
    unittest.main()
