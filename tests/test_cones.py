"""Cones of directions ([15], [16])."""

import unittest
from itertools import product
from math import gcd
from random import Random

from cushionshots.cones import cone, count_words, direction_for, words
from cushionshots.hits import hit_words
from tests.quick import Watched
from tests.slow import rolled_words

T = (4, 2)
GREAT = 10 ** 40 - 1
SPOTS = [((2, 2), (1, 1)), ((4, 2), (1, 1)), ((3, 5), (1, 4)), ((7, 2), (3, 1)), ((6, 4), (2, 2)), ((9, 8), (5, 2))]


def directions(most):
    """All directions with a sum of the absolute values up to a number, by this sum."""
    numbers = range(-most, most + 1)
    found = [(p, q) for p in numbers for q in numbers if gcd(p, q) == 1 and abs(p) + abs(q) <= most]
    return sorted(found, key=lambda way: abs(way[0]) + abs(way[1]))


def turn(one, other):
    return one[0] * other[1] - one[1] * other[0]


def inside(sides, way):
    """Whether a direction is strictly between the sides of a cone of less than half a turn."""
    return turn(sides[0], way) > 0 and turn(way, sides[1]) > 0


def short(way):
    common = gcd(*way)
    return (way[0] // common, way[1] // common)


def near(side, other):
    """A direction very near to the side of a cone, on the side of the other one."""
    return short((side[0] * 10 ** 9 + other[0], side[1] * 10 ** 9 + other[1]))


def rolled(table, spot, ways, many):
    """For each list of so many cushions by which of the directions it comes."""
    found = {}
    for way in ways:
        told = rolled_words(table, spot + way, many)
        if all(len(word) == 1 for word in told):
            found.setdefault(tuple(told), []).append(way)
    return found


class ExamplesTest(Watched):
    def test_examples_of_section_7(self):
        self.assertEqual(cone(T, (1, 1), ["N"]), ((3, 1), (-1, 1)))
        self.assertEqual(cone(T, (1, 1), ["N", "E"]), ((3, 1), (1, 1)))
        self.assertEqual(direction_for(T, (1, 1), ["N", "E"]), (2, 1))
        self.assertIsNone(cone(T, (1, 1), ["N", "N"]))
        self.assertEqual(words(T, (1, 1), 1), [["E"], ["N"], ["S"], ["W"]])


class RollTest(Watched):
    def test_lists_that_come_by_the_directions_up_to_a_size(self):
        ways = directions(16)
        for table, spot in SPOTS:
            for many in (1, 2, 3, 5, 7):
                for told, holders in rolled(table, spot, ways, many).items():
                    case = (table, spot, told)
                    sides = cone(table, spot, list(told))
                    self.assertEqual([way for way in ways if inside(sides, way)], holders, case)
                    self.assertEqual(direction_for(table, spot, list(told)), holders[0], case)

    def test_sides_are_the_very_sides(self):
        for table, spot in SPOTS:
            for told in rolled(table, spot, directions(12), 6):
                right, left = cone(table, spot, list(told))
                self.assertEqual((right, left), (short(right), short(left)))
                self.assertGreater(turn(right, left), 0)
                for way in (near(right, left), near(left, right)):
                    self.assertEqual(rolled_words(table, spot + way, 6), list(told), (table, spot, way))
                for way in (right, left):
                    self.assertEqual(max(map(len, rolled_words(table, spot + way, 6))), 2, (table, spot, way))

    def test_all_lists_of_letters(self):
        for table, spot in SPOTS:
            for many in (1, 2, 3, 4, 5):
                found = words(table, spot, many)
                coming = []
                for told in product("ENSW", repeat=many):
                    way = direction_for(table, spot, list(told))
                    self.assertEqual(way is None, cone(table, spot, list(told)) is None)
                    if way is not None:
                        self.assertEqual(rolled_words(table, spot + way, many), list(told))
                        coming.append(list(told))
                self.assertEqual(found, coming)

    def test_words_by_the_directions_up_to_a_size(self):
        ways = directions(60)
        for table, spot in SPOTS[:4]:
            found = rolled(table, spot, ways, 4)
            self.assertEqual(words(table, spot, 4), [list(told) for told in sorted(found)])
            self.assertEqual(count_words(table, spot, 4), len(found))

    def test_cones_of_all_words_lie_side_by_side_around_the_spot(self):
        for table, spot in SPOTS:
            for many in range(1, 13):
                found = words(table, spot, many)
                following = dict(cone(table, spot, told) for told in found)
                self.assertEqual(len(following), len(found))
                self.assertEqual(count_words(table, spot, many), len(found))
                self.assertEqual(sorted(found), found)
                side, turned = (short((table[0] - spot[0], table[1] - spot[1]))), 0
                begin = side
                while turned == 0 or side != begin:
                    self.assertGreater(turn(side, following[side]), 0)
                    side = following[side]
                    turned += 1
                self.assertEqual(turned, len(found))


class EdgesTest(Watched):
    def test_one_cushion(self):
        self.assertEqual(cone(T, (1, 1), ["E"]), ((3, -1), (3, 1)))
        self.assertEqual(cone(T, (1, 1), ["W"]), ((-1, 1), (-1, -1)))
        self.assertEqual(cone(T, (1, 1), ["S"]), ((-1, -1), (3, -1)))
        self.assertEqual(cone((6, 2), (3, 1), ["N"]), ((3, 1), (-3, 1)))
        told = [direction_for(T, (1, 1), [cushion]) for cushion in "ENWS"]
        self.assertEqual(told, [(1, 0), (0, 1), (-1, 0), (0, -1)])

    def test_to_and_fro(self):
        self.assertEqual(direction_for(T, (1, 1), ["N", "S"] * 30), (0, 1))
        self.assertEqual(direction_for(T, (1, 1), ["W", "E"] * 30), (-1, 0))
        self.assertEqual(cone(T, (1, 1), ["N", "S", "N"]), ((3, 5), (-1, 5)))
        self.assertEqual(cone(T, (1, 1), ["W", "E"]), ((-5, 1), (-5, -1)))

    def test_lists_that_no_direction_has(self):
        for told in (
            "NN", "EE", "SS", "WW", "NEN", "NWN", "ENE", "SWS", "ENWNE", "ESWS", "NSES", "EWNNS",
        ):
            self.assertIsNone(cone(T, (1, 1), list(told)), told)
            self.assertIsNone(direction_for(T, (1, 1), list(told)), told)
        # Only by a corner.
        self.assertIsNone(cone((2, 2), (1, 1), ["N", "E", "W"]))
        self.assertIsNone(cone((2, 2), (1, 1), ["E", "N", "S"]))
        self.assertIsNone(direction_for((2, 2), (1, 1), ["E", "N", "S"]))

    def test_the_least_sum_may_be_great_and_in_every_quarter(self):
        table, spot = (2, 2), (1, 1)
        told = ["E"] + ["W", "E"] * 20 + ["N"]
        self.assertEqual(cone(table, spot, told), ((83, 1), (81, 1)))
        self.assertEqual(direction_for(table, spot, told), (82, 1))
        self.assertEqual(direction_for(table, spot, ["E"] + ["W", "E"] * 20 + ["S"]), (82, -1))
        self.assertEqual(direction_for(table, spot, ["W"] + ["E", "W"] * 20 + ["N"]), (-82, 1))
        self.assertEqual(direction_for(table, spot, ["W"] + ["E", "W"] * 20 + ["S"]), (-82, -1))
        self.assertEqual(direction_for(table, spot, ["N"] + ["S", "N"] * 20 + ["E"]), (1, 82))
        self.assertEqual(direction_for(table, spot, ["S"] + ["N", "S"] * 20 + ["W"]), (-1, -82))

    def test_more_than_sixty_cushions(self):
        told = hit_words(T, (1, 1, 355, 113), 100)
        self.assertEqual(set(map(len, told)), {1})
        way = direction_for(T, (1, 1), told)
        self.assertEqual(hit_words(T, (1, 1) + way, 100), told)

    def test_words_and_counts(self):
        self.assertEqual([count_words(T, (1, 1), many) for many in (1, 2, 3)], [4, 12, 24])
        # From the middle of a square the ball comes to two corners in one direction.
        self.assertEqual([count_words((2, 2), (1, 1), many) for many in (1, 2, 3)], [4, 12, 20])
        pairs = ["EN", "ES", "EW", "NE", "NS", "NW", "SE", "SN", "SW", "WE", "WN", "WS"]
        self.assertEqual(words(T, (1, 1), 2), [list(told) for told in pairs])


class NewListsTest(Watched):
    def test_no_list_is_told_twice(self):
        one, other = words(T, (1, 1), 4), words(T, (1, 1), 4)
        lists = [one, other] + one + other
        self.assertEqual(len({id(told) for told in lists}), len(lists))
        for told in one:
            told.clear()
        one.clear()
        self.assertEqual(words(T, (1, 1), 4), other)

    def test_lists_of_cushions_stay_as_they_were(self):
        told = ["N", "E", "S"]
        first = cone(T, (1, 1), told), direction_for(T, (1, 1), told)
        self.assertEqual(told, ["N", "E", "S"])
        told[0] = "E"
        self.assertEqual((cone(T, (1, 1), ["N", "E", "S"]), direction_for(T, (1, 1), ["N", "E", "S"])), first)


class GreatTest(Watched):
    def test_shots_of_forty_digits_are_in_the_cones_of_their_words(self):
        chance = Random(61)
        for number in range(80):
            table = (chance.randint(2, GREAT), chance.randint(2, GREAT))
            spot = (chance.randint(1, table[0] - 1), chance.randint(1, table[1] - 1))
            shrink = chance.choice((1, 1, 10, 10 ** 3))
            way = short((chance.randint(-GREAT, GREAT) // shrink or 1, chance.randint(-GREAT, GREAT)))
            way = way if number % 2 else (way[1], way[0])
            told = hit_words(table, spot + way, 60)
            self.assertEqual(set(map(len, told)), {1})
            sides = cone(table, spot, told)
            self.assertTrue(inside(sides, way))
            least = direction_for(table, spot, told)
            self.assertLessEqual(sum(map(abs, least)), sum(map(abs, way)))
            for one in (least, near(*sides), near(*reversed(sides))):
                self.assertTrue(inside(sides, one))
                self.assertEqual(hit_words(table, spot + one, 60), told)
            for side in sides:
                hit = hit_words(table, spot + side, 60)
                corner = [len(word) for word in hit].index(2)
                self.assertEqual(hit[:corner], told[:corner])

    def test_the_least_direction_by_going_down_the_tree_of_fractions(self):
        chance = Random(62)
        for _ in range(60):
            table = (chance.randint(2, 10 ** 4), chance.randint(2, GREAT))
            spot = (chance.randint(1, table[0] - 1), chance.randint(1, table[1] - 1))
            way = short((chance.randint(-300, 300) or 1, chance.randint(-300, 300) or 1))
            told = hit_words(table, spot + way, chance.randint(1, 60))
            if max(map(len, told)) == 2:
                continue
            self.assertEqual(direction_for(table, spot, told), least_by_tree(cone(table, spot, told)))

    def test_words_of_forty_digits(self):
        chance = Random(63)
        for _ in range(3):
            table = (chance.randint(2, GREAT), chance.randint(2, GREAT))
            spot = (chance.randint(1, table[0] - 1), chance.randint(1, table[1] - 1))
            found = words(table, spot, 10)
            self.assertEqual(len(found), count_words(table, spot, 10))
            self.assertEqual(found, sorted(found))
            for told in found:
                self.assertEqual(hit_words(table, spot + direction_for(table, spot, told), 10), told)

    def test_scaled_tables_have_the_same_cones(self):
        many = 10 ** 39 + 7
        for table, spot in SPOTS:
            great, great_spot = tuple(many * side for side in table), tuple(many * number for number in spot)
            self.assertEqual(words(great, great_spot, 5), words(table, spot, 5))
            for told in words(table, spot, 5):
                self.assertEqual(cone(great, great_spot, told), cone(table, spot, told))
                self.assertEqual(direction_for(great, great_spot, told), direction_for(table, spot, told))

    def test_counts_of_many(self):
        self.assertEqual(count_words(T, (1, 1), 60), len(words(T, (1, 1), 60)))


def least_by_tree(sides):
    """The least direction between two, by mediants of neighbours in one quarter of the turn."""
    for way in ((1, 0), (0, 1), (-1, 0), (0, -1)):
        if inside(sides, way):
            return way
    # Between two axes the one on the right and the one on the left stand beside each other.
    axes = ((1, 0), (0, 1), (-1, 0), (0, -1), (1, 0))
    for right, left in zip(axes, axes[1:]):
        way = (right[0] + left[0], right[1] + left[1])
        if turn(right, sides[0]) >= 0 and turn(sides[1], left) >= 0 and turn(right, sides[1]) > 0:
            while not inside(sides, way):
                if turn(sides[0], way) <= 0:
                    right = way
                else:
                    left = way
                way = (right[0] + left[0], right[1] + left[1])
            return way
    raise AssertionError("not in one quarter")


if __name__ == "__main__":
    unittest.main()
