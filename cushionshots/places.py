"""Tables, shots and fractions, and where the ball is at a time (section 3)."""

from math import gcd

from cushionshots.errors import InvalidNumber, InvalidShot, InvalidSide, InvalidTable, InvalidTime
from cushionshots.reckoning import are_whole, fraction_of, is_whole, lines_of


def is_table(value):
    """Whether any value is a table."""
    return are_whole(value, 2) and value[0] >= 1 and value[1] >= 1


def is_shot(table, value):
    """Whether any value is a shot on a table."""
    check_table(table)
    return is_any_shot(value) and value[0] <= table[0] and value[1] <= table[1]


def is_fraction(value):
    """Whether any value is a fraction."""
    return are_whole(value, 2) and value[1] >= 1 and gcd(value[0], value[1]) == 1


def folded(side, number):
    """A fraction folded by a side, as a fraction."""
    if not is_whole(side) or side < 1:
        raise InvalidSide()
    check_time(number)
    return _fold(side, number)


def place_at(table, shot, time):
    """The place at a time, a tuple of two fractions."""
    _check_all(table, shot, time)
    return _place(table, shot, time)


def way_at(table, shot, time):
    """The way just behind a time, a tuple of two integers."""
    _check_all(table, shot, time)
    return _way(table, shot, time)


def shot_at(table, shot, time):
    """The shot that goes on from a time, or None if its place is not a tuple of integers."""
    _check_all(table, shot, time)
    (x, x_bottom), (y, y_bottom) = _place(table, shot, time)
    if x_bottom != 1 or y_bottom != 1:
        return None
    p, q = _way(table, shot, time)
    return (x, y, p, q)


def turned(shot):
    """The shot from the same place in the opposite direction."""
    if not is_any_shot(shot):
        raise InvalidShot()
    x, y, p, q = shot
    return (x, y, -p, -q)


def scaled(table, shot, many):
    """The table and the shot with all lengths, but not the direction, multiplied by many."""
    check_shot(table, shot)
    if not is_whole(many) or many < 1:
        raise InvalidNumber()
    width, height = table
    x, y, p, q = shot
    return ((width * many, height * many), (x * many, y * many, p, q))


def crossed(table, shot):
    """The table and the shot with the two directions exchanged."""
    check_shot(table, shot)
    width, height = table
    x, y, p, q = shot
    return ((height, width), (y, x, q, p))


def is_any_shot(value):
    """Whether any value is a shot on some table."""
    return are_whole(value, 4) and value[0] >= 0 and value[1] >= 0 and (value[2] != 0 or value[3] != 0)


def check_table(table):
    """Raises InvalidTable for what is no table."""
    if not is_table(table):
        raise InvalidTable()


def check_shot(table, shot):
    """Raises InvalidTable for what is no table, then InvalidShot for what is no shot on it."""
    if not is_shot(table, shot):
        raise InvalidShot()


def check_time(time):
    """Raises InvalidTime for what is no fraction."""
    if not is_fraction(time):
        raise InvalidTime()


def _check_all(table, shot, time):
    check_shot(table, shot)
    check_time(time)


def _fold(side, number):
    top, bottom = number
    rest = top % (2 * side * bottom)
    if rest <= side * bottom:
        return (rest, bottom)
    return (2 * side * bottom - rest, bottom)


def _place(table, shot, time):
    top, bottom = time
    return tuple([
        _fold(side, fraction_of(start * bottom + speed * top, bottom))
        for side, start, speed in lines_of(table, shot)
    ])


def _way(table, shot, time):
    return tuple([_line_way(line, time) for line in lines_of(table, shot)])


def _line_way(line, time):
    side, start, speed = line
    top, bottom = time
    # A line never falls, so just behind the time it is still in the part that begins at or ahead of it.
    part = (start * bottom + speed * top) // (side * bottom)
    if part % 2 == 0:
        return speed
    return -speed
