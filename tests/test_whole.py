"""The parts of the program held against one another."""

import unittest
from fractions import Fraction
from math import gcd
from random import Random

from cushionshots.apart import first_unlike
from cushionshots.balls import are_together, count_meetings, first_meeting
from cushionshots.cones import cone, direction_for, words
from cushionshots.errors import BallsMeet
from cushionshots.hits import count_hits, hit_words, nth_hit
from cushionshots.kinds import CalmBoundedTable, CalmTable
from cushionshots.live import LiveTable
from cushionshots.objects import Ball
from cushionshots.places import crossed, place_at, scaled, shot_at, turned, way_at
from cushionshots.pockets import count_in_stretch, first_at, first_in_stretch, first_pocket
from cushionshots.rounds import corner_hit, round_hits, round_time
from cushionshots.texts import format_cushions, format_shot, format_table, parse_cushions, parse_shot, parse_table
from tests.quick import Watched
from tests.slow import pair, some_shot
from tests.slow_live import some_pockets

GREAT = 10 ** 40 - 1
CROSSED = {"W": "S", "S": "W", "E": "N", "N": "E"}


def crossed_pockets(pockets):
    """Pockets with the two directions exchanged."""
    return tuple((CROSSED[cushion], low, high) for cushion, low, high in pockets)


def scaled_pockets(pockets, many):
    """Pockets with all lengths multiplied by many."""
    return tuple((cushion, low * many, high * many) for cushion, low, high in pockets)


def fast(shot, many):
    """A shot that is so many times as fast."""
    return shot[:2] + (shot[2] * many, shot[3] * many)


def tables_and_shots(seed, many, greatest, shots=1):
    """Tuples of a table and shots on it, of all sizes up to the greatest."""
    chance = Random(seed)
    for number in range(many):
        limit = min(greatest, 10 ** (1 + number % 40))
        table = (chance.randint(1, limit), chance.randint(1, limit))
        yield (table, *[some_shot(chance, table, limit) for _ in range(shots)])


class TextsTest(Watched):
    def test_what_functions_return(self):
        chance = Random(111)
        for table, shot in tables_and_shots(112, 200, GREAT):
            many = chance.randint(1, GREAT)
            for other_table, other in (scaled(table, shot, many), crossed(table, shot), (table, turned(shot))):
                self.assertEqual(parse_table(format_table(other_table)), other_table)
                self.assertEqual(parse_shot(format_shot(other)), other)
            later = shot_at(table, shot, (many, 1))
            self.assertEqual(parse_shot(format_shot(later)), later)
            self.assertEqual(Ball(parse_table(format_table(table)), parse_shot(format_shot(later))), Ball(table, later))

    def test_cushions_that_come(self):
        for told in words((5, 3), (2, 1), 4):
            self.assertEqual(parse_cushions(format_cushions(told)), told)
            direction = direction_for((5, 3), (2, 1), parse_cushions(format_cushions(told)))
            self.assertEqual(format_cushions(hit_words((5, 3), (2, 1) + direction, 4)), format_cushions(told))

    def test_shots_of_live_tables(self):
        live = LiveTable.read(format_table((7, 5)))
        for shot in ((1, 2, 3, -4), (0, 5, -1, 0), (7, 0, 2, 9)):
            live.add(parse_shot(format_shot(shot)))
        live.roll(1234)
        for _, shot in live.balls_now:
            self.assertEqual(parse_shot(format_shot(shot)), shot)


class ObjectsTest(Watched):
    def test_places_and_meetings(self):
        chance = Random(113)
        for table, shot, other in tables_and_shots(114, 120, GREAT, 2):
            ball, second = Ball(table, shot), Ball(table, other)
            time = pair(Fraction(chance.randint(-GREAT, GREAT), chance.randint(1, 10 ** chance.randint(0, 40))))
            self.assertEqual(ball(time), place_at(table, shot, time))
            self.assertEqual((-ball)(time), place_at(table, turned(shot), time))
            met = ball & second
            self.assertEqual(met, first_meeting(table, shot, other))
            self.assertEqual(met, second & ball)
            if met is not None:
                self.assertEqual(ball(met), second(met))
                self.assertGreaterEqual(met[0], 0)
            self.assertEqual(ball & -ball, (0, 1))

    def test_spots_to_which_they_come(self):
        chance = Random(115)
        for table, shot in tables_and_shots(116, 120, 10 ** 10 - 1):
            ball = Ball(table, shot)
            place = ball((chance.randint(0, 10 ** 10), 1))
            here = (place[0][0], place[1][0])
            spot = (chance.randint(0, table[0]), chance.randint(0, table[1]))
            self.assertIs(here in ball, True)
            self.assertIs(spot in ball, first_at(table, shot, spot) is not None)
            # A round goes through the same places in both directions.
            self.assertIs(spot in -ball, spot in ball)
            self.assertIs((table[0] + 1, spot[1]) in ball, False)

    def test_balls_sent_back(self):
        chance = Random(117)
        for table, shot in tables_and_shots(118, 60, GREAT):
            time = chance.randint(1, GREAT)
            later = Ball(table, shot_at(table, shot, (time, 1)))
            self.assertEqual((-later)((time, 1)), Ball(table, shot)((0, 1)))
            self.assertEqual(later((-time, 1)), Ball(table, shot)((0, 1)))
            self.assertEqual(later((1, 7)), Ball(table, shot)(pair(time + Fraction(1, 7))))


class LiveTest(Watched):
    def test_rolls_as_shot_at_and_first_pocket_tell(self):
        chance = Random(119)
        fell = 0
        for number in range(60):
            limit = chance.choice((5, 50, 10 ** 10 - 1))
            table = (chance.randint(1, limit), chance.randint(1, limit))
            pockets = some_pockets(chance, table, number % 4)
            live = LiveTable(table, pockets)
            shots = [some_shot(chance, table, limit) for _ in range(6)]
            for shot in shots:
                live.add(shot)
            steps = [chance.randint(0, chance.choice((2, 50, 10 ** 10))) for _ in range(4)]
            told = [live.roll(many) for many in steps]
            fallen, staying = self.wanted(table, pockets, shots, sum(steps))
            self.assertEqual(live.fallen_now, tuple(one for _, one in sorted(fallen)))
            self.assertEqual([one for numbers in told for one in numbers], list(live.fallen_now))
            self.assertEqual(live.balls_now, tuple(staying))
            self.assertEqual(live.time_now, sum(steps))
            # One call does the same as several ones.
            for _ in steps:
                live.undo()
            self.assertEqual(live.roll(sum(steps)), [one for _, one in sorted(fallen)])
            self.assertEqual(live.balls_now, tuple(staying))
            fell += len(fallen)
        self.assertGreater(fell, 60)

    def wanted(self, table, pockets, shots, many):
        """The falls, tuples (time, number), and the balls that stay, as the functions tell them."""
        fallen, staying = [], []
        for number, shot in enumerate(shots):
            pocket = first_pocket(table, shot, list(pockets))
            time = None if pocket is None else Fraction(*nth_hit(table, shot, pocket[0])[0])
            if time is not None and time <= many:
                fallen.append((time, number))
            else:
                staying.append((number, shot_at(table, shot, (many, 1))))
        return fallen, staying

    def test_calm_tables_as_first_meeting_tells(self):
        chance = Random(120)
        met = 0
        for _ in range(150):
            limit = chance.choice((3, 6, 10 ** 10 - 1))
            table = (chance.randint(1, limit), chance.randint(1, limit))
            shots = [some_shot(chance, table, limit) for _ in range(3)]
            live = CalmTable(table)
            for shot in shots:
                live.add(shot)
            times = [Ball(table, shots[at]) & Ball(table, shots[other]) for at, other in ((0, 1), (0, 2), (1, 2))]
            times = [Fraction(*time) for time in times if time is not None]
            many = chance.randint(0, min(10 ** 10, limit * 2))
            if times and min(times) <= many:
                met += 1
                with self.assertRaises(BallsMeet) as caught:
                    live.roll(many)
                self.assertEqual(caught.exception.time, pair(min(times)))
            else:
                self.assertEqual(live.roll(many), [])
        self.assertGreater(met, 30)

    def test_scaled_crossed_and_faster_live_tables(self):
        chance = Random(121)
        for _ in range(60):
            table = (chance.randint(1, 6), chance.randint(1, 6))
            pockets = some_pockets(chance, table, 2)
            many = chance.randint(2, 10 ** 9)
            lives = [
                CalmBoundedTable(table, pockets),
                CalmBoundedTable(crossed(table, (0, 0, 1, 1))[0], crossed_pockets(pockets)),
                CalmBoundedTable(scaled(table, (0, 0, 1, 1), many)[0], scaled_pockets(pockets, many)),
                CalmBoundedTable(scaled(table, (0, 0, 1, 1), many)[0], scaled_pockets(pockets, many)),
            ]
            for _ in range(3):
                shot = some_shot(chance, table, 4)
                great = scaled(table, shot, many)[1]
                for live, one in zip(lives, (shot, crossed(table, shot)[1], great, fast(great, many))):
                    live.add(one)
            steps = chance.randint(0, 9)
            told = [self.roll(live, step) for live, step in zip(lives, (steps, steps, steps * many, steps))]
            self.assertEqual(told[1], told[0])
            self.assertEqual(told[3], told[0])
            if told[0][0] == "met":
                self.assertEqual(told[2], ("met", pair(Fraction(*told[0][1]) * many)))
            else:
                self.assertEqual(told[2], told[0])
            for (number, shot), *others in zip(*[live.balls_now for live in lives]):
                great = scaled(table, shot, many)[1]
                wanted = [(number, one) for one in (crossed(table, shot)[1], great, fast(great, many))]
                self.assertEqual(others, wanted)

    def roll(self, live, many):
        """What a roll returns, or the time of the meeting."""
        try:
            return ("rolled", live.roll(many))
        except BallsMeet as caught:
            return ("met", caught.time)


class LaterTest(Watched):
    """A shot that is begun later answers as the shot did at that later time."""

    def test_hits_begun_later(self):
        chance = Random(122)
        for table, shot in tables_and_shots(123, 80, GREAT):
            ago = chance.randint(1, GREAT)
            later = shot_at(table, shot, (ago, 1))
            gone = count_hits(table, shot, (ago, 1))
            for index in (0, 1, 5, chance.randint(0, 10 ** 30)):
                time, word, place = nth_hit(table, later, index)
                self.assertEqual(nth_hit(table, shot, gone + index), (pair(Fraction(*time) + ago), word, place))
            self.assertEqual(round_time(table, later), round_time(table, shot))
            self.assertEqual(round_hits(table, later), round_hits(table, shot))
            self.assertEqual(corner_hit(table, later) is None, corner_hit(table, shot) is None)

    def test_stretches_begun_later(self):
        chance = Random(124)
        for table, shot in tables_and_shots(125, 80, 10 ** 20):
            for stretch in some_pockets(chance, table, 3):
                first = first_in_stretch(table, shot, stretch)
                time = Fraction(*nth_hit(table, shot, first)[0]) if first is not None else Fraction(9)
                ago = chance.randint(0, int(time))
                later = shot_at(table, shot, (ago, 1))
                self.assertEqual(count_in_stretch(table, later, stretch, pair(time - ago)), int(first is not None and ago < time))
                if first is not None and ago < time:
                    self.assertEqual(first_in_stretch(table, later, stretch), first - count_hits(table, shot, (ago, 1)))

    def test_meetings_and_unlike_hits_begun_later(self):
        chance = Random(126)
        for table, shot, other in tables_and_shots(127, 80, GREAT, 2):
            ago = chance.randint(0, 10 ** chance.randint(0, 40))
            later, second = shot_at(table, shot, (ago, 1)), shot_at(table, other, (ago, 1))
            self.assertIs(are_together(table, later, second), are_together(table, shot, other))
            met, unlike = first_meeting(table, later, second), first_unlike(table, shot, other)
            self.assertEqual(met is None, first_meeting(table, shot, other) is None)
            if met is not None and not are_together(table, shot, other):
                time = pair(Fraction(*met) + ago)
                ahead = count_meetings(table, shot, other, pair(ago - Fraction(1, 10 ** 200)))
                self.assertEqual(count_meetings(table, shot, other, time), ahead + 1)
            if unlike is not None and unlike < 10 ** 30:
                self.assertNotEqual(nth_hit(table, shot, unlike)[1], nth_hit(table, other, unlike)[1])

    def test_ways_of_cones_and_of_their_shots(self):
        for told in words((4, 3), (1, 2), 4):
            right, left = cone((4, 3), (1, 2), told)
            direction = direction_for((4, 3), (1, 2), told)
            self.assertEqual(gcd(*direction), 1)
            shot = (1, 2) + direction
            self.assertEqual(way_at((4, 3), shot, (0, 1)), direction)
            self.assertEqual(hit_words((4, 3), shot, 4), told)
            for side in (right, left):
                self.assertNotEqual(hit_words((4, 3), (1, 2) + side, 4), told)


if __name__ == "__main__":
    unittest.main()
