"""The tests' own slow reckoning: the ball is rolled from cushion to cushion with exact fractions."""

from fractions import Fraction
from itertools import islice
from math import floor, gcd
from random import Random

LETTERS = ("WE", "SN")


def pair(number):
    """A Fraction or an int as the package writes fractions."""
    number = Fraction(number)
    return (number.numerator, number.denominator)


def legs(table, shot):
    """All straight ways one by one: (time, place, way, duration, word of the hit at the end)."""
    place = [Fraction(shot[0]), Fraction(shot[1])]
    way = [shot[2], shot[3]]
    for at in (0, 1):
        if (place[at] == 0 and way[at] < 0) or (place[at] == table[at] and way[at] > 0):
            way[at] = -way[at]
    time = Fraction(0)
    while True:
        waits = [None, None]
        for at in (0, 1):
            if way[at] > 0:
                waits[at] = (table[at] - place[at]) / way[at]
            elif way[at] < 0:
                waits[at] = place[at] / -way[at]
        wait = min(one for one in waits if one is not None)
        word = "".join(LETTERS[at][int(way[at] > 0)] for at in (0, 1) if waits[at] == wait)
        yield time, tuple(place), tuple(way), wait, word
        time += wait
        for at in (0, 1):
            place[at] += way[at] * wait
            if waits[at] == wait:
                way[at] = -way[at]


class Roll:
    """A shot that is rolled for some rounds, each of the time 2 * width * height."""

    def __init__(self, table, shot, rounds=1):
        self.table = table
        self.round = 2 * table[0] * table[1]
        self.until = self.round * rounds
        self.legs = []
        for leg in legs(table, shot):
            if leg[0] >= self.until:
                break
            self.legs.append(leg)
        self.hits = []
        for time, place, way, wait, word in self.legs:
            end = (place[0] + way[0] * wait, place[1] + way[1] * wait)
            if time + wait <= self.until:
                self.hits.append((time + wait, word, end))

    def listed_hits(self):
        """The hits as the package writes them."""
        return [(pair(time), word, (pair(x), pair(y))) for time, word, (x, y) in self.hits]

    def state(self, time):
        """Place and way just behind a time of any sign."""
        time = time - floor(time / self.round) * self.round if not 0 <= time < self.until else time
        for begin, place, way, wait, _ in self.legs:
            if begin <= time < begin + wait:
                return tuple(place[at] + way[at] * (time - begin) for at in (0, 1)), way
        raise AssertionError("not rolled so far")

    def first_return(self):
        """The least time above 0 with the place and the way of just behind 0."""
        _, start, way, _, _ = self.legs[0]
        at = 0 if way[0] else 1
        for time, place, to, wait, _ in self.legs:
            after = (start[at] - place[at]) / way[at]
            there = tuple(place[n] + way[n] * after for n in (0, 1))
            if to == way and there == start and 0 <= after < wait and time + after > 0:
                return time + after
        return Fraction(self.round)

    def words(self):
        return [word for _, word, _ in self.hits]

    def count(self, time, cushion=""):
        return sum(1 for at, word, _ in self.hits if at <= time and cushion in word)

    def in_stretch(self, hit, stretch):
        cushion, low, high = stretch
        _, word, (x, y) = hit
        return cushion in word and low <= (y if cushion in "WE" else x) <= high

    def first_in_stretch(self, stretch):
        return next((at for at, hit in enumerate(self.hits) if self.in_stretch(hit, stretch)), None)

    def count_in_stretch(self, stretch, time):
        return sum(1 for hit in self.hits if hit[0] <= time and self.in_stretch(hit, stretch))

    def first_pocket(self, stretches):
        for index, hit in enumerate(self.hits):
            for at, stretch in enumerate(stretches):
                if self.in_stretch(hit, stretch):
                    return (index, at)
        return None

    def first_in_box(self, box):
        for time, place, way, wait, _ in self.legs:
            begin, end = Fraction(0), wait
            for at, low, high in ((0, box[0], box[1]), (1, box[2], box[3])):
                if way[at] == 0:
                    if not low <= place[at] <= high:
                        begin, end = Fraction(1), Fraction(0)
                    continue
                edges = sorted(((low - place[at]) / way[at], (high - place[at]) / way[at]))
                begin, end = max(begin, edges[0]), min(end, edges[1])
            if begin <= end:
                return pair(time + begin)
        return None


def rolled_words(table, shot, many):
    """The words of the first many hits."""
    return [leg[4] for leg in islice(legs(table, shot), many)]


def meetings(one, other):
    """All times from 0 on up to which both are rolled with the same place; None if it is the same all the time."""
    found = set()
    at = [0, 0]
    while at[0] < len(one.legs) and at[1] < len(other.legs):
        first, second = one.legs[at[0]], other.legs[at[1]]
        ends = (first[0] + first[3], second[0] + second[3])
        begin = max(first[0], second[0])
        gaps = [first[1][n] + first[2][n] * (begin - first[0]) for n in (0, 1)]
        gaps = [gaps[n] - second[1][n] - second[2][n] * (begin - second[0]) for n in (0, 1)]
        rates = [first[2][n] - second[2][n] for n in (0, 1)]
        if gaps == [0, 0] and rates == [0, 0]:
            return None
        for n in (0, 1):
            after = -gaps[n] / rates[n] if rates[n] else Fraction(0)
            if gaps[n] + rates[n] * after == 0 == gaps[1 - n] + rates[1 - n] * after and 0 <= after <= min(ends) - begin:
                found.add(begin + after)
        at = [at[n] + int(ends[n] == min(ends)) for n in (0, 1)]
    return sorted(time for time in found if time <= min(one.until, other.until))


def parting(words, others):
    """The least index at which two lists of words that are repeated for ever are unlike, or None."""
    # Lists that agree so long agree for ever.
    for at in range(len(words) + len(others)):
        if words[at % len(words)] != others[at % len(others)]:
            return at
    return None


def fold(side, number):
    """What [5] says, word by word."""
    rest = number - floor(number / (2 * side)) * 2 * side
    return rest if rest <= side else 2 * side - rest


def all_shots(table, greatest):
    """Every shot on a table with directions up to a number."""
    numbers = range(-greatest, greatest + 1)
    return [
        (x, y, p, q)
        for x in range(table[0] + 1)
        for y in range(table[1] + 1)
        for p in numbers
        for q in numbers
        if (p, q) != (0, 0)
    ]


def some_shots(seed, many, side=6, greatest=7):
    """Pairs of tables and shots, always the same for the same seed."""
    chance = Random(seed)
    told = []
    while len(told) < many:
        table = (chance.randint(1, side), chance.randint(1, side))
        shot = some_shot(chance, table, greatest)
        told.append((table, shot))
    return told


def some_shot(chance, table, greatest):
    """A shot of chance on a table."""
    way = (0, 0)
    while way == (0, 0):
        way = (chance.randint(-greatest, greatest), chance.randint(-greatest, greatest))
    return (chance.randint(0, table[0]), chance.randint(0, table[1])) + way


def some_box(chance, table):
    """A box of chance on a table, often thin or a point."""
    box = ()
    for side in table:
        low = chance.randint(0, side)
        high = chance.choice((low, low, side, chance.randint(low, side)))
        box += (low, high)
    return box


def some_stretch(chance, table):
    """A stretch of chance of a table, often a point."""
    cushion = chance.choice("WESN")
    side = table[1] if cushion in "WE" else table[0]
    low = chance.randint(0, side)
    return (cushion, low, chance.choice((low, side, chance.randint(low, side))))


def whole_parts(many, grow, begin, bottom):
    """The sum of (grow * k + begin) // bottom for k below many, by going down to smaller numbers."""
    if many == 0:
        return 0
    total = (grow // bottom) * many * (many - 1) // 2 + (begin // bottom) * many
    grow, begin = grow % bottom, begin % bottom
    rows = (grow * (many - 1) + begin) // bottom
    if rows == 0:
        return total
    # A point k lies in row j if grow * k + begin >= j * bottom.
    return total + many * rows - whole_parts(rows, bottom, bottom - begin + grow - 1, grow)


def how_many(many, grow, begin, circle, ranges):
    """For how many k below many the rest of grow * k + begin lies in one of some ranges of a circle."""
    pieces = []
    for low, high in ranges:
        if high - low >= circle - 1:
            return many
        low, high = low % circle, high % circle
        pieces += [(low, high)] if low <= high else [(low, circle - 1), (0, high)]
    merged = []
    for low, high in sorted(pieces):
        if merged and low <= merged[-1][1] + 1:
            merged[-1] = (merged[-1][0], max(high, merged[-1][1]))
        else:
            merged.append((low, high))
    return sum(
        whole_parts(many, grow, begin + circle - low, circle) - whole_parts(many, grow, begin + circle - high - 1, circle)
        for low, high in merged
    )


def least_within(grow, begin, circle, ranges):
    """The least k with the rest in one of the ranges, found by halving with how_many; or None."""
    low, high = 0, circle // gcd(grow, circle)
    if how_many(high, grow, begin, circle, ranges) == 0:
        return None
    while high - low > 1:
        middle = (low + high) // 2
        if how_many(middle, grow, begin, circle, ranges) > 0:
            high = middle
        else:
            low = middle
    return low
