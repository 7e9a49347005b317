"""The hits of a shot at the cushions, one by one and counted (section 4)."""

from math import gcd

from cushionshots.errors import InvalidCushion, InvalidIndex, InvalidNumber
from cushionshots.places import check_shot, check_time, place_at
from cushionshots.reckoning import earliest, first_within, is_whole, lines_of, mark_from, mark_time, marks_passed
from cushionshots.reckoning import other_at_marks

# Two for each line: the one at even multiples of its side, then the one at odd multiples.
CUSHIONS = ("W", "E", "S", "N")


def count_hits(table, shot, time):
    """How many hits have a time of at most this one."""
    check_shot(table, shot)
    check_time(time)
    return _count(_hit_marks(lines_of(table, shot)), time)


def nth_hit(table, shot, index):
    """The tuple (time, word, place) of the hit with an index."""
    check_shot(table, shot)
    if not is_whole(index) or index < 0:
        raise InvalidIndex()
    lines = lines_of(table, shot)
    marks = _hit_marks(lines)
    time = earliest([_time_of_count(marks, line, index + 1) for line in lines])
    return (time, _word(lines, time), place_at(table, shot, time))


def hits(table, shot):
    """A generator of all hits as tuples (time, word, place), without an end."""
    check_shot(table, shot)
    lines = lines_of(table, shot)
    time = (0, 1)
    while True:
        time = _next_time(lines, time)
        yield (time, _word(lines, time), place_at(table, shot, time))


def hit_words(table, shot, many):
    """The list of the words of the first many hits."""
    check_shot(table, shot)
    if not is_whole(many) or many < 0:
        raise InvalidNumber()
    lines = lines_of(table, shot)
    found = []
    time = (0, 1)
    for _ in range(many):
        time = _next_time(lines, time)
        found.append(_word(lines, time))
    return found


def count_cushion(table, shot, cushion, time):
    """How many hits with a time of at most this one have a cushion."""
    check_shot(table, shot)
    if not is_cushion(cushion):
        raise InvalidCushion()
    check_time(time)
    line, first, _ = cushion_marks(lines_of(table, shot), cushion)
    return marks_passed(line, first, 2 * line[0], time)


def is_cushion(value):
    """Whether any value is one of the four letters."""
    return isinstance(value, str) and value in CUSHIONS


def cushion_marks(lines, cushion):
    """The line that hits a cushion, its first mark there, and the other line.

    The marks of the cushion are twice the side apart.
    """
    at = CUSHIONS.index(cushion)
    line = lines[at // 2]
    side, start, _ = line
    return (line, mark_from(start + 1, at % 2 * side, 2 * side), lines[1 - at // 2])


def side_marks(line):
    """The marks (line, first, step) of the hits by a line."""
    side, start, _ = line
    return (line, mark_from(start + 1, 0, side), side)


def corner_marks(lines):
    """The list of the marks of the first line that are corners: one tuple, or none."""
    line, other = lines
    if line[2] == 0 or other[2] == 0:
        return []
    _, first, step = side_marks(line)
    grow, begin = other_at_marks(line, first, step, other)
    circle = other[0] * line[2]
    index = first_within(grow, begin, circle, 0, 0)
    if index is None:
        return []
    return [(line, first + step * index, step * (circle // gcd(grow, circle)))]


def _hit_marks(lines):
    """The marks (line, first, step) of the hits by the first and by the second number, then of the corners."""
    return [side_marks(line) for line in lines] + corner_marks(lines)


def _count(marks, time):
    passed = [marks_passed(line, first, step, time) for line, first, step in marks]
    # A corner is a mark of both lines and yet only one hit.
    return passed[0] + passed[1] - sum(passed[2:])


def _time_of_count(marks, line, many):
    """The time of the first hit by a line with which there are so many hits, None if it does not move."""
    if line[2] == 0:
        return None
    _, first, step = side_marks(line)
    low, high = 0, many - 1
    while low < high:
        middle = (low + high) // 2
        if _count(marks, mark_time(line, first + step * middle)) < many:
            low = middle + 1
        else:
            high = middle
    return mark_time(line, first + step * low)


def _next_time(lines, time):
    """The time of the first hit behind a time from 0 on."""
    top, bottom = time
    times = []
    for line in lines:
        side, start, speed = line
        if speed > 0:
            reached = start + speed * top // bottom
            times.append(mark_time(line, mark_from(reached + 1, 0, side)))
    return earliest(times)


def _word(lines, time):
    top, bottom = time
    word = ""
    for at, (side, start, speed) in enumerate(lines):
        number = start * bottom + speed * top
        if speed > 0 and number % (side * bottom) == 0:
            word = word + CUSHIONS[2 * at + number // (side * bottom) % 2]
    return word
