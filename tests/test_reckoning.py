"""What the parts reckon with, held against counting one by one."""

import unittest
from fractions import Fraction
from math import ceil
from random import Random

from cushionshots.reckoning import count_within, earliest, first_between, first_within, floor_sum, fraction_of, spans
from tests.quick import Watched
from tests.slow import fold, how_many, least_within, whole_parts


def lies(number, circle, low, high):
    """Whether the number, or one that differs from it by whole circles, is from low to high."""
    return (number - low) % circle <= high - low


class SmallTest(Watched):
    def test_first_and_count_within_one_by_one(self):
        for circle in range(1, 9):
            for grow in range(-2, circle + 2):
                for begin in range(-3, circle + 3):
                    self.hold_against(circle, grow, begin)

    def hold_against(self, circle, grow, begin):
        for low in range(-circle, circle + 1):
            for high in range(low, low + circle + 2):
                found = [k for k in range(2 * circle) if lies(grow * k + begin, circle, low, high)]
                told = first_within(grow, begin, circle, low, high)
                self.assertEqual(told, found[0] if found else None, (grow, begin, circle, low, high))
                for many in (0, 1, circle, 2 * circle):
                    count = count_within(many, grow, begin, circle, low, high)
                    self.assertEqual(count, len([k for k in found if k < many]), (many, grow, begin, circle, low, high))

    def test_first_between_one_by_one(self):
        chance = Random(3)
        for _ in range(5000):
            lower, upper = [
                (chance.randint(-25, 25), chance.randint(-20, 20), chance.randint(1, 12)) for _ in range(2)
            ]
            heights = [Fraction(begin, bottom) for _, begin, bottom in (lower, upper)]
            rises = [Fraction(grow, bottom) for grow, _, bottom in (lower, upper)]
            wanted = None
            for k in range(300 if heights[0] <= heights[1] else 0):
                low, high = heights[0] + rises[0] * k, heights[1] + rises[1] * k
                if low > high:
                    break
                if ceil(low) <= high:
                    wanted = k
                    break
            self.assertEqual(first_between(lower, upper), wanted, (lower, upper))

    def test_first_between_slopes_that_meet(self):
        # They meet at an integer, beside one, and at 0.
        self.assertEqual(first_between((15, 25, 100), (1, 5, 10)), 5)
        self.assertIsNone(first_between((1, 1, 10), (-1, 9, 10)))
        self.assertEqual(first_between((1, 0, 1), (-1, 0, 1)), 0)
        self.assertIsNone(first_between((3, 1, 2), (2, 1, 2)))
        self.assertIsNone(first_between((2, 1, 2), (2, 1, 2)))
        self.assertEqual(first_between((3, 1, 2), (3, 1, 2)), 1)
        self.assertIsNone(first_between((0, 2, 1), (5, 1, 1)))

    def test_floor_sum(self):
        chance = Random(1)
        for _ in range(2000):
            many, bottom = chance.randint(0, 12), chance.randint(1, 12)
            grow, begin = chance.randint(-30, 30), chance.randint(-30, 30)
            total = sum((grow * k + begin) // bottom for k in range(many))
            self.assertEqual(floor_sum(many, grow, begin, bottom), total)
            self.assertEqual(whole_parts(many, grow, begin, bottom), total)

    def test_spans_fold_to_their_range_and_are_apart(self):
        for side in range(1, 6):
            for low in range(side + 1):
                for high in range(low, side + 1):
                    ranges = spans(low, high, side)
                    for number in range(-4 * side, 4 * side):
                        place = Fraction(number, 2)
                        holders = [one for one in ranges if lies(number, 4 * side, 2 * one[0], 2 * one[1])]
                        self.assertEqual(len(holders), int(low <= fold(side, place) <= high), (low, high, side, number))

    def test_fraction_of(self):
        self.assertEqual([fraction_of(0, 7), fraction_of(-4, 6), fraction_of(9, 3)], [(0, 1), (-2, 3), (3, 1)])

    def test_earliest(self):
        self.assertIsNone(earliest([]))
        self.assertIsNone(earliest([None, None]))
        self.assertEqual(earliest([None, (3, 2), (4, 3), None, (7, 5)]), (4, 3))
        self.assertEqual(earliest([(1, 3), (1, 2)]), (1, 3))


class GreatTest(Watched):
    def test_great_numbers_by_halving(self):
        chance = Random(2)
        for digits in (5, 20, 40, 80):
            for _ in range(12):
                circle = chance.randint(1, 10 ** digits)
                grow, begin = chance.randint(0, 10 ** digits), chance.randint(-(10 ** digits), 10 ** digits)
                low = chance.randint(-circle, circle)
                for width in (0, chance.randint(0, circle), circle // 10 ** (digits // 2), circle // 10 ** (digits // 4)):
                    wanted = least_within(grow, begin, circle, [(low, low + width)])
                    self.assertEqual(first_within(grow, begin, circle, low, low + width), wanted)
                    many = chance.randint(0, 10 ** digits)
                    count = how_many(many, grow, begin, circle, [(low, low + width)])
                    self.assertEqual(count_within(many, grow, begin, circle, low, low + width), count)


    def test_great_slopes_with_one_integer_close_to_both(self):
        chance = Random(4)
        for digits in (10, 40):
            for _ in range(30):
                grow, bottom = chance.randint(1, 10 ** digits), chance.randint(1, 10 ** digits)
                begin, width = chance.randint(0, bottom), chance.choice((0, 1, bottom // 10 ** (digits // 2)))
                wanted = least_within(grow, begin, bottom, [(-width, 0)])
                self.assertEqual(first_between((grow, begin, bottom), (grow, begin + width, bottom)), wanted)
                if wanted is None:
                    continue
                # The upper slope rises a little more, but not so much that it comes to another integer.
                many = bottom * (wanted + 2)
                upper = (grow * many + 1, (begin + width) * many, bottom * many)
                told = first_between((grow, begin, bottom), upper)
                self.assertLessEqual(told, wanted)
                self.assertGreaterEqual((upper[0] * told + upper[1]) // upper[2], -(-(grow * told + begin) // bottom))


if __name__ == "__main__":
    unittest.main()
