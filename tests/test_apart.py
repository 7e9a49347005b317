"""Shots told apart ([17], [18])."""

import unittest
from itertools import combinations
from random import Random

from cushionshots.apart import first_unlike, telling
from cushionshots.hits import hit_words, nth_hit
from cushionshots.places import crossed, scaled
from tests.quick import Watched
from tests.slow import Roll, all_shots, parting, some_shot, whole_parts

T, S = (4, 2), (1, 0, 1, 1)
GREAT = 10 ** 40 - 1


class ExamplesTest(Watched):
    def test_examples_of_section_8(self):
        self.assertEqual(first_unlike(T, S, (1, 0, 1, 2)), 1)
        self.assertIsNone(first_unlike(T, S, (1, 0, 2, 2)))
        self.assertEqual(telling(T, [S, (1, 0, 1, 2), (2, 1, -1, 0)]), 2)


class RollTest(Watched):
    def test_all_pairs_on_small_tables(self):
        for table, greatest in (((1, 1), 3), ((1, 2), 2), ((2, 1), 2), ((2, 2), 1), ((2, 3), 1)):
            rolled = [(shot, Roll(table, shot).words()) for shot in all_shots(table, greatest)]
            for shot, words in rolled:
                for other, others in rolled:
                    self.assertEqual(first_unlike(table, shot, other), parting(words, others), (table, shot, other))

    def test_some_pairs(self):
        chance = Random(71)
        for _ in range(200):
            table = (chance.randint(1, 9), chance.randint(1, 9))
            shots = [some_shot(chance, table, 9) for _ in range(4)]
            shots.append(shots[0][:2] + shots[1][2:])
            shots.append(shots[2][:2] + (shots[3][2] * 3, shots[3][3] * 3))
            shots.append((max(0, shots[0][0] - 1),) + shots[0][1:])
            words = [Roll(table, shot).words() for shot in shots]
            for at, other in combinations(range(len(shots)), 2):
                wanted = parting(words[at], words[other])
                self.assertEqual(first_unlike(table, shots[at], shots[other]), wanted, (table, shots[at], shots[other]))

    def test_directions_that_are_nearly_the_same(self):
        chance = Random(72)
        late = 0
        for _ in range(250):
            table = (chance.randint(1, 4), chance.randint(1, 4))
            p, q = chance.randint(5, 25), chance.randint(5, 25)
            place = (chance.randint(0, table[0]), chance.randint(0, table[1]))
            other = chance.choice((place, (chance.randint(0, table[0]), place[1])))
            shots = (place + (p, q), other + (p + chance.randint(0, 1), q + chance.randint(-1, 1)))
            told = first_unlike(table, *shots)
            self.assertEqual(told, parting(*[Roll(table, shot).words() for shot in shots]), (table, shots))
            late += told is not None and told > 12
        self.assertGreater(late, 15)

    def test_telling_some_lists(self):
        chance = Random(73)
        found = {True: 0, False: 0}
        for _ in range(400):
            table = (chance.randint(1, 5), chance.randint(1, 5))
            shots = [some_shot(chance, table, 6) for _ in range(chance.randint(2, 6))]
            words = [Roll(table, shot).words() for shot in shots]
            many = [parting(one, other) for one, other in combinations(words, 2)]
            wanted = None if None in many else max(many) + 1
            self.assertEqual(telling(table, shots), wanted, (table, shots))
            found[wanted is None] += 1
        self.assertGreater(min(found.values()), 15)


class EdgesTest(Watched):
    def test_along_a_cushion_and_to_and_fro(self):
        self.assertIsNone(first_unlike(T, (1, 0, 1, 0), (3, 1, 5, 0)))
        self.assertEqual(first_unlike(T, (1, 0, 1, 0), (1, 0, -1, 0)), 0)
        self.assertIsNone(first_unlike(T, (0, 2, 0, 1), (3, 2, 0, -7)))
        self.assertEqual(first_unlike(T, (0, 2, 0, 1), (0, 0, 0, 7)), 0)
        self.assertEqual(first_unlike(T, (1, 0, 1, 0), (1, 0, 0, 1)), 0)
        # Four hits at N and S come ahead of the first one at W.
        self.assertEqual(first_unlike(T, (1, 1, 0, 1), (4, 1, -1, 2)), 4)
        self.assertEqual(first_unlike(T, (4, 1, -1, 2), (1, 1, 0, 1)), 4)
        self.assertEqual(first_unlike(T, (1, 1, 0, 1), (4, 1, -1, -2)), 0)
        self.assertEqual(first_unlike(T, (1, 1, 1, 0), (4, 2, 3, 0)), 0)
        self.assertEqual(first_unlike(T, (1, 1, 1, 0), (1, 1, 9, 2)), 1)

    def test_the_same_shot_and_parallel_ones(self):
        for shot in ((1, 0, 1, 1), (0, 0, 3, 5), (4, 2, 1, 0), (1, 1, 0, -2), (2, 1, 2, 1)):
            self.assertIsNone(first_unlike(T, shot, shot))
            self.assertIsNone(telling(T, [shot, shot]))
            for many in (2, 7, 10 ** 39):
                faster = shot[:2] + (shot[2] * many, shot[3] * many)
                self.assertIsNone(first_unlike(T, shot, faster))
                self.assertIsNone(first_unlike(T, faster, shot))

    def test_other_places_with_the_same_words_for_ever(self):
        self.assertIsNone(first_unlike((4, 4), (1, 0, 1, 1), (2, 0, 3, 3)))
        self.assertIsNone(first_unlike((10 ** 39, 10 ** 39), (5, 4, 1, 1), (6, 4, 1, 1)))
        self.assertEqual(first_unlike((10 ** 39, 10 ** 39), (5, 4, 1, 1), (5, 5, 1, 1)), 0)

    def test_corners(self):
        self.assertEqual(hit_words((2, 2), (0, 0, 1, 1), 2), ["EN", "WS"])
        self.assertEqual(first_unlike((2, 2), (0, 0, 1, 1), (0, 0, 1, 2)), 0)
        self.assertIsNone(first_unlike((2, 2), (0, 0, 1, 1), (1, 1, 1, 1)))
        self.assertEqual(first_unlike((2, 2), (0, 0, 2, 1), (1, 1, 1, 1)), 0)
        # The same hits up to a corner of the one, which the other one passes closely.
        self.assertEqual(first_unlike((1, 1), (0, 0, 2, 3), (0, 0, 200, 301)), 3)
        self.assertEqual(first_unlike((1, 1), (0, 0, 2, 3), (0, 0, 200, 299)), 3)

    def test_unlike_letters(self):
        self.assertEqual(first_unlike(T, (2, 1, 1, 1), (2, 1, -1, 1)), 1)
        self.assertEqual(first_unlike(T, (2, 1, 1, 1), (2, 1, 1, -1)), 0)
        self.assertEqual(first_unlike(T, (2, 1, 1, 1), (2, 1, -1, -1)), 0)
        self.assertEqual(first_unlike((100, 2), (50, 1, 1, 1), (50, 1, -1, 1)), 25)
        self.assertEqual(first_unlike((100, 2), (50, 1, 1, 1), (49, 1, -1, 1)), 24)

    def test_telling_by_one_hit(self):
        shots = [(1, 1, 1, 0), (1, 1, -1, 0), (1, 1, 0, 1), (1, 1, 0, -1), (0, 0, 2, 1), (0, 2, 2, 1)]
        self.assertEqual(telling(T, shots), 1)
        self.assertEqual(telling(T, shots + [(2, 2, -2, -1)]), 2)
        self.assertIsNone(telling(T, shots + [(2, 2, -2, -2), (2, 1, -5, 0)]))

    def test_lists_of_shots_stay_as_they_were(self):
        shots = [S, (1, 0, 1, 2), (2, 1, -1, 0)]
        self.assertEqual(telling(T, shots), 2)
        self.assertEqual(shots, [S, (1, 0, 1, 2), (2, 1, -1, 0)])
        shots[2] = S
        self.assertIsNone(telling(T, shots))
        self.assertEqual(telling(T, shots[:2]), 2)


def moving(table, shot):
    """How far the first hits are along both ways, and both speeds."""
    (w, h), (x, y, p, q) = table, shot
    across = (w - x if p > 0 else x) or w
    along = (h - y if q > 0 else y) or h
    return across, along, abs(p), abs(q)


def ahead(table, shot):
    """The numbers of [18]: ahead of the i-th hit at W and E come (grow * i + begin - 1) // bottom + 1 others."""
    across, along, p, q = moving(table, shot)
    return (q * table[0], q * across - p * along, p * table[1])


def integers_between(low, high, start, many):
    """How many pairs there are of a number from start on and an integer from low to high there."""
    total = 0
    for (grow, begin, bottom), less, sign in ((high, 0, 1), (low, 1, -1)):
        begin = begin + grow * start - less
        total += sign * whole_parts(many, grow, begin, bottom)
    return total


def first_with_integer(low, high, start, many):
    """The least of many numbers from start on with an integer from low to high, by halving; or None."""
    if many <= 0 or integers_between(low, high, start, many) == 0:
        return None
    least, most = 0, 1
    while integers_between(low, high, start, most) == 0:
        least, most = most, min(2 * most, many)
    while most - least > 1:
        middle = (least + most) // 2
        if integers_between(low, high, start, middle) == 0:
            least = middle
        else:
            most = middle
    return start + least


def unlike_by_sums(table, shot, other):
    """The least unlike hit by the sums of whole parts, for shots that move both ways with the same first letters."""
    one, two = ahead(table, shot), ahead(table, other)
    grow, begin = two[0] * one[2] - one[0] * two[2], two[1] * one[2] - one[1] * two[2]
    if begin < 0:
        one, two, grow, begin = two, one, -grow, -begin
        shot, other = other, shot
    bound = one[2] * two[2] + 2
    if grow < 0:
        number = first_with_integer(one, two, 0, -(begin // grow))
        if number is None:
            number = first_with_integer(two, one, begin // -grow + 1, bound)
    else:
        number = first_with_integer(one, two, int(begin == 0), bound)
    if number is None or grow == begin == 0:
        return None
    counts = [(grow * number + begin - 1) // bottom + 1 for grow, begin, bottom in (one, two)]
    grow, begin, bottom = one
    corners = whole_parts(number, grow, begin + bottom, bottom) - whole_parts(number, grow, begin + bottom - 1, bottom)
    return number + min(counts) - corners


def late_pair(chance, great):
    """A table and two shots of nearly the same place and direction, with numbers up to a great one."""
    table = (chance.randint(great // 9, great), chance.randint(great // 9, great))
    shot = (chance.randint(0, table[0] - 2), chance.randint(0, table[1] - 2), chance.randint(3, great), great // 3)
    near = chance.choice(((0, 0, 0, 1), (0, 0, 1, 1), (1, 0, 0, 0), (1, 1, 0, 0), (0, 1, 1, 0), (1, 1, -1, 1)))
    other = tuple(number + more for number, more in zip(shot, near))
    if chance.random() < 0.3:
        other = other[:2] + (shot[2] * 2, shot[3] * 2)
    return table, shot, other


class GreatTest(Watched):
    def test_the_reckoning_by_sums_itself(self):
        chance = Random(74)
        for _ in range(150):
            table, shot, other = late_pair(chance, 20)
            wanted = parting(*[Roll(table, one).words() for one in (shot, other)])
            self.assertEqual(unlike_by_sums(table, shot, other), wanted, (table, shot, other))

    def test_shots_that_part_first_after_very_many_hits(self):
        chance = Random(75)
        late = 0
        for digits in (3, 10, 20, 39):
            for _ in range(25):
                table, shot, other = late_pair(chance, 10 ** digits)
                told = first_unlike(table, shot, other)
                self.assertEqual(told, unlike_by_sums(table, shot, other), (table, shot, other))
                self.assertEqual(first_unlike(table, other, shot), told)
                if told is None:
                    continue
                late += told > 10 ** (digits // 2)
                words = [[nth_hit(table, one, at)[1] for at in (max(0, told - 1), told)] for one in (shot, other)]
                self.assertNotEqual(words[0][1], words[1][1])
                if told > 0:
                    self.assertEqual(words[0][0], words[1][0])
        self.assertGreater(late, 40)

    def test_a_known_pair(self):
        for many in list(range(1, 30)) + [10 ** 39]:
            shots = ((1, 1, many, many + 1), (1, 1, many + 1, many + 2))
            self.assertEqual(first_unlike((2, 2), *shots), 2 * many + 1)
            self.assertEqual(telling((2, 2), list(shots)), 2 * many + 2)
            if many < 30:
                told = [hit_words((2, 2), shot, 2 * many + 2) for shot in shots]
                self.assertEqual([one == other for one, other in zip(*told)], [True] * (2 * many + 1) + [False])

    def test_shots_of_any_forty_digits(self):
        chance = Random(76)
        for _ in range(150):
            table = (chance.randint(1, GREAT), chance.randint(1, GREAT))
            shot, other = some_shot(chance, table, GREAT), some_shot(chance, table, GREAT)
            told = first_unlike(table, shot, other)
            self.assertLess(told, 60)
            self.assertEqual(hit_words(table, shot, told), hit_words(table, other, told))
            self.assertNotEqual(hit_words(table, shot, told + 1), hit_words(table, other, told + 1))

    def test_scaled_and_crossed_pairs(self):
        chance = Random(77)
        for _ in range(60):
            table, shot, other = late_pair(chance, 999)
            told = first_unlike(table, shot, other)
            many = chance.randint(1, 10 ** 37)
            great, great_shot = scaled(table, shot, many)
            self.assertEqual(first_unlike(great, great_shot, scaled(table, other, many)[1]), told)
            crossed_table, crossed_shot = crossed(table, shot)
            self.assertEqual(first_unlike(crossed_table, crossed_shot, crossed(table, other)[1]), told)

    def test_telling_twenty_shots(self):
        table, place = (GREAT, GREAT - 6), (10 ** 39, 10 ** 38 + 1)
        shots = [place + (10 ** 39 + number, 10 ** 40 - 1 - number * number) for number in range(20)]
        partings = [first_unlike(table, one, other) for one, other in combinations(shots, 2)]
        self.assertEqual(telling(table, shots), max(partings) + 1)
        self.assertGreater(max(partings), 10 ** 18)
        self.assertIsNone(telling(table, shots[:19] + [shots[3]]))


if __name__ == "__main__":
    unittest.main()
