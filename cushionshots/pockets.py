"""When a ball first comes to a spot, into a box or to a stretch of a cushion (section 5)."""

from cushionshots.errors import InvalidBox, InvalidSpot, InvalidStretch, InvalidStretches
from cushionshots.hits import count_hits, cushion_marks, is_cushion
from cushionshots.places import check_shot, check_time
from cushionshots.reckoning import are_whole, count_within, earliest, first_within, is_whole, lines_of, mark_from
from cushionshots.reckoning import mark_time, marks_passed, other_at_marks, spans


def first_at(table, shot, spot):
    """The least time from 0 on at which the place is a spot, or None."""
    check_shot(table, shot)
    if not is_spot(table, spot):
        raise InvalidSpot()
    x, y = spot
    return _first_inside(table, shot, (x, x, y, y))


def first_in_box(table, shot, box):
    """The least time from 0 on at which the place is in a box, or None."""
    check_shot(table, shot)
    if not _is_box(table, box):
        raise InvalidBox()
    return _first_inside(table, shot, box)


def first_in_stretch(table, shot, stretch):
    """The index of the first hit in a stretch, or None."""
    check_shot(table, shot)
    if not is_stretch(table, stretch):
        raise InvalidStretch()
    time = _stretch_time(lines_of(table, shot), stretch)
    if time is None:
        return None
    return count_hits(table, shot, time) - 1


def count_in_stretch(table, shot, stretch, time):
    """How many hits with a time of at most this one are in a stretch."""
    check_shot(table, shot)
    if not is_stretch(table, stretch):
        raise InvalidStretch()
    check_time(time)
    cushion, low, high = stretch
    line, first, other = cushion_marks(lines_of(table, shot), cushion)
    many = marks_passed(line, first, 2 * line[0], time)
    if many == 0:
        return 0
    grow, begin, circle, ranges = _question(line, first, other, low, high)
    return sum([count_within(many, grow, begin, circle, least, greatest) for least, greatest in ranges])


def first_pocket(table, shot, stretches):
    """The tuple (index of the hit, index of the stretch) of the first hit in one of the stretches, or None."""
    check_shot(table, shot)
    if not _are_stretches(table, stretches):
        raise InvalidStretches()
    times = stretch_times(table, shot, stretches)
    time = earliest(times)
    if time is None:
        return None
    return (count_hits(table, shot, time) - 1, times.index(time))


def is_spot(table, value):
    """Whether any value is a spot on a table."""
    return are_whole(value, 2) and 0 <= value[0] <= table[0] and 0 <= value[1] <= table[1]


def is_stretch(table, value):
    """Whether any value is a stretch of a cushion of a table."""
    if not isinstance(value, tuple) or len(value) != 3:
        return False
    cushion, low, high = value
    if not is_cushion(cushion) or not is_whole(low) or not is_whole(high):
        return False
    width, height = table
    if cushion in ("W", "E"):
        return 0 <= low <= high <= height
    return 0 <= low <= high <= width


def stretch_times(table, shot, stretches):
    """For each of the stretches the time of the first hit in it, or None."""
    lines = lines_of(table, shot)
    return [_stretch_time(lines, stretch) for stretch in stretches]


def _is_box(table, value):
    if not are_whole(value, 4):
        return False
    left, right, low, high = value
    return 0 <= left <= right <= table[0] and 0 <= low <= high <= table[1]


def _are_stretches(table, value):
    return isinstance(value, list) and all([is_stretch(table, item) for item in value])


def _first_inside(table, shot, box):
    x, y, _, _ = shot
    left, right, low, high = box
    if left <= x <= right and low <= y <= high:
        return (0, 1)
    across, along = lines_of(table, shot)
    # Outside now, the ball comes in when one of its two numbers does and the other one is already in.
    return earliest(
        _entry_times(across, left, right, along, low, high)
        + _entry_times(along, low, high, across, left, right)
    )


def _entry_times(line, least, greatest, other, low, high):
    """For each range of a line the first time at which it begins while the other line is from low to high."""
    side, start, _ = line
    marks = [mark_from(start, begin, 2 * side) for begin, _ in spans(least, greatest, side)]
    return [_first_time(line, mark, other, low, high) for mark in marks]


def _stretch_time(lines, stretch):
    cushion, low, high = stretch
    line, first, other = cushion_marks(lines, cushion)
    return _first_time(line, first, other, low, high)


def _first_time(line, first, other, low, high):
    """The least time at which a line is at one of its marks and the folded other one is from low to high.

    The marks begin with first and are twice the side apart. None if there is no such time.
    """
    if line[2] == 0:
        return None
    grow, begin, circle, ranges = _question(line, first, other, low, high)
    found = [first_within(grow, begin, circle, least, greatest) for least, greatest in ranges]
    indexes = [index for index in found if index is not None]
    if len(indexes) == 0:
        return None
    return mark_time(line, first + 2 * line[0] * min(indexes))


def _question(line, first, other, low, high):
    """The numbers grow, begin, circle and the ranges for which k is asked in [13].

    All of them are multiplied by the speed of the line, which makes them integers.
    """
    side, _, speed = line
    grow, begin = other_at_marks(line, first, 2 * side, other)
    circle = 2 * other[0] * speed
    return (grow, begin, circle, [(speed * least, speed * most) for least, most in spans(low, high, other[0])])
