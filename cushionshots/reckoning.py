"""What all parts reckon with: integers, fractions, and numbers that grow evenly.

A line is a tuple (side, start, speed): one of the two numbers of the free place, which is
start at the time 0 and grows by speed, never below 0, in each unit of time. The marks of
a line are the numbers first, first + step, first + 2 step and so on. A slope is a tuple
(grow, begin, bottom), bottom from 1 on: the number (grow * k + begin) / bottom at k.
"""

from math import gcd


def is_whole(value):
    """Whether any value is an integer (True and False are none)."""
    return isinstance(value, int) and not isinstance(value, bool)


def are_whole(value, many):
    """Whether any value is a tuple of so many integers."""
    return isinstance(value, tuple) and len(value) == many and all([is_whole(item) for item in value])


def fraction_of(top, bottom):
    """The fraction that is top divided by bottom, bottom from 1 on."""
    common = gcd(top, bottom)
    return (top // common, bottom // common)


def earliest(times):
    """The least of a list of times, some of which may be None; None if there is no time."""
    best = None
    for time in times:
        if time is None:
            continue
        if best is None or time[0] * best[1] < best[0] * time[1]:
            best = time
    return best


def lines_of(table, shot):
    """The lines of the first and of the second number of the free place."""
    width, height = table
    x, y, p, q = shot
    return (_line_of(width, x, p), _line_of(height, y, q))


def _line_of(side, start, speed):
    # A number and its negative fold to the same place and lie equally many sides from 0,
    # so a falling number may be taken as its rising negative.
    if speed < 0:
        return (side, -start, -speed)
    return (side, start, speed)


def mark_from(number, rest, step):
    """The least integer from a number on that differs from rest by a multiple of step."""
    return number + (rest - number) % step


def mark_time(line, mark):
    """The time at which a line that moves is at a mark."""
    _, start, speed = line
    return fraction_of(mark - start, speed)


def marks_passed(line, first, step, time):
    """How many of its marks, all of them ahead of its start, a line has come to by a time."""
    _, start, speed = line
    top, bottom = time
    reached = start + speed * top // bottom
    if reached < first:
        return 0
    return (reached - first) // step + 1


def other_at_marks(line, first, step, other):
    """The tuple (grow, begin) that tells where the other line is when this one is at its marks.

    At the mark with the index k the number of the other line is grow * k + begin, divided
    by the speed of this line.
    """
    _, start, speed = line
    _, other_start, other_speed = other
    return (other_speed * step, other_start * speed + other_speed * (first - start))


def spans(low, high, side):
    """The ranges (from, to) that fold to low .. high, without their repeats by twice the side.

    They have no number in common, so that what lies in them may be counted for each alone.
    """
    if low == 0:
        return [(-high, high)]
    if high == side:
        return [(low, 2 * side - low)]
    return [(-high, -low), (low, high)]


def first_within(grow, begin, circle, low, high):
    """The least k from 0 on for which grow * k + begin is from low to high, or None.

    Multiples of circle, which is from 1 on, do not count.
    """
    return first_between((grow, begin - high, circle), (grow, begin - low, circle))


def first_between(lower, upper):
    """The least k from 0 on at which some integer is from one slope to another one, or None.

    None, too, where the first slope lies above the second one at 0.
    """
    exchanged = []
    while True:
        grow, begin, bottom = lower
        top_grow, top_begin, top_bottom = upper
        if begin * top_bottom > top_begin * bottom:
            return None
        least = -(-begin // bottom)
        if least * top_bottom <= top_begin:
            many = 0
            break
        # From here on the heights are told from the least integer above both slopes at 0.
        begin, top_begin = begin - least * bottom, top_begin - least * top_bottom
        rise = -(-grow // bottom)
        if rise * top_bottom <= top_grow:
            many = _first_out((grow - rise * bottom, begin, bottom), (top_grow - rise * top_bottom, top_begin))
            break
        grow, top_grow = grow % bottom, top_grow - grow // bottom * top_bottom
        if top_grow <= 0:
            return None
        # Both now rise by less than 1, and the leftmost point between them is also the lowest
        # one: the same question is asked with the two directions exchanged.
        lower, upper = (top_bottom, -top_begin, top_grow), (bottom, -begin, grow)
        exchanged.append(lower)
    if many is None:
        return None
    for grow, begin, bottom in reversed(exchanged):
        many = -(-(grow * many + begin) // bottom)
    return many


def _first_out(lower, upper):
    """The least k at which the lower slope is at most -1 or the upper one is at least 0, or None.

    Both are above -1 and below 0 at 0; the lower one does not rise, the upper one does not fall.
    """
    grow, begin, bottom = lower
    top_grow, top_begin = upper
    found = []
    if grow < 0:
        found.append(-(-(begin + bottom) // -grow))
    if top_grow > 0:
        found.append(-(top_begin // top_grow))
    return min(found, default=None)


def count_within(many, grow, begin, circle, low, high):
    """For how many k from 0 on, below many, grow * k + begin is from low to high.

    Multiples of circle, which is from 1 on, do not count.
    """
    if high - low >= circle:
        return many
    return floor_sum(many, grow, begin - low, circle) - floor_sum(many, grow, begin - high - 1, circle)


def floor_sum(many, grow, begin, bottom):
    """The sum of the whole parts of (grow * k + begin) / bottom for k below many."""
    total = 0
    while True:
        total = total + grow // bottom * (many * (many - 1) // 2) + begin // bottom * many
        grow, begin = grow % bottom, begin % bottom
        top = grow * many + begin
        if top < bottom:
            return total
        # Under the line as many points are counted by columns as by rows.
        many, begin = top // bottom, top % bottom
        grow, bottom = bottom, grow
