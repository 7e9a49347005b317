"""When two balls on one table are at the same place (section 6).

Two numbers fold to the same place if their difference or their sum is a multiple of twice
the side. Both grow evenly, so with each of them the times are all times, none, or evenly
spaced. Reckoned with here are integers: how many parts of the unit of time, so small that
all these times are multiples of them. Such evenly spaced times are a tuple (rest, step):
all multiples of the part that differ from rest, which is below step, by a multiple of step.
"""

from math import lcm

from cushionshots.errors import AlwaysTogether
from cushionshots.places import check_shot, check_time
from cushionshots.reckoning import first_within, fraction_of


def first_meeting(table, shot, other):
    """The least time from 0 on at which two balls are at the same place, or None."""
    _check_shots(table, shot, other)
    parts, meetings = _meetings(table, shot, other)
    if len(meetings) == 0:
        return None
    return fraction_of(min([rest for rest, _ in meetings]), parts)


def are_together(table, shot, other):
    """Whether two balls are at the same place at all times."""
    _check_shots(table, shot, other)
    return _are_together(table, shot, other)


def count_meetings(table, shot, other, time):
    """At how many times from 0 to this one two balls are at the same place."""
    _check_shots(table, shot, other)
    check_time(time)
    if _are_together(table, shot, other):
        raise AlwaysTogether()
    top, bottom = time
    if top < 0:
        return 0
    parts, meetings = _meetings(table, shot, other)
    last = top * parts // bottom
    return sum([sign * ((last - rest) // step + 1) for sign, (rest, step) in _counted_once(meetings)])


def _check_shots(table, shot, other):
    check_shot(table, shot)
    check_shot(table, other)


def _gaps(table, shot, other):
    """For each of the two numbers of a place twice its side and what must be a multiple of this.

    The latter are a difference and a sum, tuples (start, speed), either of which is enough.
    """
    gaps = []
    for at in range(2):
        start, speed, other_start, other_speed = shot[at], shot[at + 2], other[at], other[at + 2]
        difference = (start - other_start, speed - other_speed)
        gaps.append((2 * table[at], [difference, (start + other_start, speed + other_speed)]))
    return gaps


def _are_together(table, shot, other):
    return all([
        any([start % circle == 0 and speed == 0 for start, speed in pairs])
        for circle, pairs in _gaps(table, shot, other)
    ])


def _meetings(table, shot, other):
    """The tuple of the parts of the unit of time and the list of the evenly spaced meetings in them.

    If the balls are always together, one of these has all multiples of a part.
    """
    gaps = _gaps(table, shot, other)
    parts = 1
    for _, pairs in gaps:
        for _, speed in pairs:
            if speed != 0:
                parts = lcm(parts, speed)
    across, along = [_same_numbers(circle, pairs, parts) for circle, pairs in gaps]
    meetings = [_both(one, other_one) for one in across for other_one in along]
    return (parts, [meeting for meeting in meetings if meeting is not None])


def _same_numbers(circle, pairs, parts):
    """The evenly spaced times at which one of the pairs is a multiple of circle."""
    told = []
    for start, speed in pairs:
        if speed != 0:
            step = circle * parts // abs(speed)
            told.append((-start * parts // speed % step, step))
        elif start % circle == 0:
            # At all times, so at all multiples of a part, too.
            told.append((0, 1))
    return told


def _both(one, other):
    """The times that are among two evenly spaced ones, or None."""
    rest, step = one
    other_rest, other_step = other
    index = first_within(step, rest - other_rest, other_step, 0, 0)
    if index is None:
        return None
    return (rest + step * index, lcm(step, other_step))


def _counted_once(meetings):
    """A list of (sign, times) in which the signs of a time that is among several meetings make 1."""
    told = []
    for meeting in meetings:
        shared = [(-sign, _both(times, meeting)) for sign, times in told]
        told = told + [(1, meeting)] + [(sign, times) for sign, times in shared if times is not None]
    return told
