"""After which time a ball does the same again, and what it hits until then (section 4)."""

from math import gcd, lcm

from cushionshots.hits import corner_marks, count_hits
from cushionshots.places import check_shot
from cushionshots.reckoning import fraction_of, lines_of, mark_time


def round_time(table, shot):
    """The least time above 0 behind which place and way are always as they were this time earlier."""
    check_shot(table, shot)
    # With these a number that does not move keeps the least common multiple as it is.
    top, bottom = 1, 0
    for side, _, speed in lines_of(table, shot):
        if speed > 0:
            line_top, line_bottom = fraction_of(2 * side, speed)
            top, bottom = lcm(top, line_top), gcd(bottom, line_bottom)
    return (top, bottom)


def round_hits(table, shot):
    """The tuple of the numbers of hits with W, E, S and N in a round."""
    top, bottom = round_time(table, shot)
    across, along = [speed * top // (2 * side * bottom) for side, _, speed in lines_of(table, shot)]
    return (across, across, along, along)


def corner_hit(table, shot):
    """The index of the first hit that is a corner, or None."""
    check_shot(table, shot)
    marks = corner_marks(lines_of(table, shot))
    if len(marks) == 0:
        return None
    line, first, _ = marks[0]
    return count_hits(table, shot, mark_time(line, first)) - 1
