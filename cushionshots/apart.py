"""By which hit shots can be told apart by the words of their hits (section 8)."""

from cushionshots.errors import InvalidShots
from cushionshots.hits import count_hits, side_marks
from cushionshots.places import check_shot, check_table, is_shot
from cushionshots.reckoning import first_between, lines_of, mark_time, other_at_marks


def first_unlike(table, shot, other):
    """The least index of a hit at which the words of two shots are unlike, or None."""
    check_shot(table, shot)
    check_shot(table, other)
    return _first_unlike(table, shot, other)


def telling(table, shots):
    """The least number of first hits by whose words all shots are unlike one another, or None."""
    check_table(table)
    if not _are_shots(table, shots):
        raise InvalidShots()
    indexes = [_first_unlike(table, shot, other) for at, shot in enumerate(shots) for other in shots[:at]]
    if None in indexes:
        return None
    return max(indexes) + 1


def _are_shots(table, value):
    return isinstance(value, list) and len(value) >= 2 and all([is_shot(table, item) for item in value])


def _first_unlike(table, shot, other):
    both = [shot, other]
    one_lines, other_lines = lines_of(table, shot), lines_of(table, other)
    indexes = []
    for at in range(2):
        # The letters of a sort come in turn, so they differ at once, at the first one, or never.
        if _first_letter(one_lines[at]) != _first_letter(other_lines[at]):
            indexes = indexes + _indexes(table, both, at, 0)
    if all([speed > 0 for _, _, speed in one_lines + other_lines]):
        number = _first_apart(_hits_ahead(one_lines), _hits_ahead(other_lines))
        if number is not None:
            indexes = indexes + _indexes(table, both, 0, number)
    return min(indexes, default=None)


def _first_letter(line):
    """Whether a line hits the cushion at odd multiples of its side first; None if it hits none."""
    side, _, speed = line
    if speed == 0:
        return None
    _, first, _ = side_marks(line)
    return first // side % 2 == 1


def _indexes(table, shots, at, number):
    """For each of the shots that hits by the line at an index there: which hit its hit with a number is."""
    indexes = []
    for shot in shots:
        line = lines_of(table, shot)[at]
        if line[2] > 0:
            _, first, step = side_marks(line)
            indexes.append(count_hits(table, shot, mark_time(line, first + step * number)) - 1)
    return indexes


def _hits_ahead(lines):
    """The slope whose least integer from it on tells how many hits by the second line come ahead.

    This is so for each hit by the first line, told by its number. Where the slope is an
    integer, there is a hit by the second line at the same time.
    """
    line, other = lines
    _, first, step = side_marks(line)
    _, other_first, other_step = side_marks(other)
    grow, begin = other_at_marks(line, first, step, other)
    return (grow, begin - other_first * line[2], other_step * line[2])


def _first_apart(one, other):
    """The least number from 0 on at which two slopes are unlike and an integer is from one to the other.

    None if there is none.
    """
    one_grow, one_begin, one_bottom = one
    other_grow, other_begin, other_bottom = other
    grow = other_grow * one_bottom - one_grow * other_bottom
    begin = other_begin * one_bottom - one_begin * other_bottom
    if begin < 0 or (begin == 0 and grow > 0):
        return _first_apart(other, one)
    # The other slope is now above until they meet, or it is so for ever, or they meet at 0.
    number = first_between(one, other)
    if number is not None and grow * number + begin > 0:
        return number
    if grow >= 0:
        return None
    start = begin // -grow + 1
    return start + first_between(_from_number(other, start), _from_number(one, start))


def _from_number(slope, number):
    grow, begin, bottom = slope
    return (grow, begin + grow * number, bottom)
