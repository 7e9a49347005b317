"""In which directions a ball must be sent so that told cushions come one after the other (section 7).

The table is laid out again and again beside itself, mirrored at its cushions, so that the
ball rolls straight on. Its cells are told by tuples (column, row); it starts in (0, 0).
A view is a tuple (cell, right, left): the cell into which the ball comes, and the sides
of the cone in which it is sent there, which are None at the start.
"""

from math import gcd

from cushionshots.errors import InvalidCushions, InvalidNumber, InvalidSpot
from cushionshots.hits import CUSHIONS, is_cushion
from cushionshots.places import check_table
from cushionshots.reckoning import are_whole, first_between, is_whole

ASCENDING = ("E", "N", "S", "W")
AXES = ((1, 0), (0, 1), (-1, 0), (0, -1))
START = ((0, 0), None, None)


def cone(table, spot, cushions):
    """The tuple (right, left) of the sides of the cone by which cushions come, or None."""
    _check_spot(table, spot)
    if not are_cushions(cushions):
        raise InvalidCushions()
    view = START
    for cushion in cushions:
        view = _through(table, spot, view, cushion)
        if view is None:
            return None
    _, right, left = view
    return (_direction(right), _direction(left))


def direction_for(table, spot, cushions):
    """The direction by which cushions come with the least sum of its absolute values, or None."""
    sides = cone(table, spot, cushions)
    if sides is None:
        return None
    right, left = sides
    for axis in AXES:
        if _turn(right, axis) > 0 and _turn(axis, left) > 0:
            return axis
    return _least_between(right, left)


def words(table, spot, many):
    """The ascending list of all lists of many cushions that come by some direction."""
    _check_many(table, spot, many)
    told = [([], START)]
    for _ in range(many):
        told = [further for cushions, view in told for further in _one_more(table, spot, cushions, view)]
    return [cushions for cushions, _ in told]


def count_words(table, spot, many):
    """How many lists of many cushions come by some direction."""
    _check_many(table, spot, many)
    # The first many words change just at the directions by which one of them is a corner, so
    # there are as many lists as such directions.
    width, height = table
    x, y = spot
    numbers = list(range(1 - many, many + 1))
    return len({
        _direction((column * width - x, row * height - y))
        for column in numbers
        for row in numbers
        if _multiples_to(column) + _multiples_to(row) <= many + 1
    })


def are_cushions(value):
    """Whether any value is a list of cushions that is not empty."""
    return isinstance(value, list) and len(value) > 0 and all([is_cushion(item) for item in value])


def _check_spot(table, spot):
    check_table(table)
    if not are_whole(spot, 2) or not 0 < spot[0] < table[0] or not 0 < spot[1] < table[1]:
        raise InvalidSpot()


def _check_many(table, spot, many):
    _check_spot(table, spot)
    if not is_whole(many) or many < 1:
        raise InvalidNumber()


def _direction(vector):
    p, q = vector
    common = gcd(p, q)
    return (p // common, q // common)


def _turn(one, other):
    """Above 0 if the other direction is to the left of one, within half a turn."""
    return one[0] * other[1] - one[1] * other[0]


def _one_more(table, spot, cushions, view):
    """The lists with one more cushion that come, each with its view, ascending."""
    views = [(cushion, _through(table, spot, view, cushion)) for cushion in ASCENDING]
    return [(cushions + [cushion], further) for cushion, further in views if further is not None]


def _through(table, spot, view, cushion):
    """The view behind a cushion as the next one, or None if it cannot be the next one."""
    cell, right, left = view
    index = CUSHIONS.index(cushion)
    at = index // 2
    # In odd columns and rows the two cushions have changed places.
    step = 1 if (index + cell[at]) % 2 == 1 else -1
    # The ball rolls straight on, so it does not leave a cell by where it came in.
    if cell[at] * step < 0:
        return None
    gate_right, gate_left = _gate(table, spot, cell, at, step)
    if right is None or _turn(right, gate_right) > 0:
        right = gate_right
    if left is None or _turn(gate_left, left) > 0:
        left = gate_left
    if _turn(right, left) <= 0:
        return None
    column, row = cell
    if at == 0:
        return ((column + step, row), right, left)
    return ((column, row + step), right, left)


def _gate(table, spot, cell, at, step):
    """The directions to the right and to the left end of the cushion by which the ball leaves a cell."""
    ahead = table[at] * (cell[at] + (step + 1) // 2) - spot[at]
    low = table[1 - at] * cell[1 - at] - spot[1 - at]
    high = low + table[1 - at]
    if at == 0:
        ends = ((ahead, low), (ahead, high))
    else:
        ends = ((high, ahead), (low, ahead))
    if step < 0:
        return (ends[1], ends[0])
    return ends


def _least_between(right, left):
    """The direction with the least sum between two sides in one quarter of the turn.

    No side is on an axis, as the spot is inside and the sides go to corners.
    """
    across = 1 if right[0] > 0 else -1
    along = 1 if right[1] > 0 else -1
    low, high = (across * right[0], along * right[1]), (across * left[0], along * left[1])
    # Mirroring once exchanges right and left.
    if across != along:
        low, high = high, low
    p, q = _least_in_first_quarter(low, high)
    return (across * p, along * q)


def _least_in_first_quarter(low, high):
    """The direction between two with the least p, which has also the least q."""
    low_p, low_q = low
    high_p, high_q = high
    # Strictly between is from 1 / low_p above the low side to 1 / high_p below the high one.
    # Ahead of start these two leave no room.
    start = -(-(low_p + high_p) // _turn(low, high))
    p = start + first_between((low_q, low_q * start + 1, low_p), (high_q, high_q * start - 1, high_p))
    return (p, low_q * p // low_p + 1)


def _multiples_to(number):
    """How many multiples of a side the ball has come to, from inside the first cell, at the one with a number."""
    return number if number > 0 else 1 - number
