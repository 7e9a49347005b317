"""A table with pockets on which balls roll, and its calls taken back (section 10).

All that calls change is one state, a tuple (balls, fallen, passed, next): the tuples
(number, shot) of the balls on the table, the numbers of those that fell, how much time has
passed, and the number of the ball that is put on the table next. A state itself never
changes: a call makes a new one, and one that raises an error makes none.
"""

from math import lcm

from cushionshots.errors import InvalidBall, InvalidChange, InvalidNumber, InvalidPockets, NothingToUndo
from cushionshots.places import check_shot, check_table, is_table, shot_at
from cushionshots.pockets import is_stretch, stretch_times
from cushionshots.reckoning import earliest, is_whole
from cushionshots.texts import parse_table

CHANGES = ("add", "roll", "take")
BEGINNING = ((), (), 0, 0)


class LiveTable:
    """A table with pockets and the balls that roll on it."""

    EMPTY = ()

    def __init__(self, table, pockets=()):
        check_table(table)
        if not _are_pockets(table, pockets):
            raise InvalidPockets()
        self._table = table
        self._pockets = pockets
        self._state = BEGINNING
        self._calls = []

    @classmethod
    def read(cls, table_text):
        """An object with the table that a text tells, without pockets."""
        return cls(parse_table(table_text))

    @staticmethod
    def is_valid(value):
        """Whether any value is a table."""
        return is_table(value)

    @property
    def balls_now(self):
        """The tuple of the tuples (number, shot) of the balls on the table, by their numbers."""
        return self._state[0]

    @property
    def fallen_now(self):
        """The tuple of the numbers of the balls that fell, in the order in which they fell."""
        return self._state[1]

    @property
    def time_now(self):
        """How much time has passed, an integer."""
        return self._state[2]

    def __len__(self):
        """The number of calls that undo can remove."""
        return len(self._calls)

    def add(self, shot):
        """Puts a ball on the table and returns its number."""
        return self._call("add", shot)

    def roll(self, many):
        """Lets a time of many pass and returns the list of the numbers of the balls that fall."""
        return self._call("roll", many)

    def take(self, number):
        """Takes a ball off the table and returns its shot."""
        return self._call("take", number)

    def undo(self):
        """Takes back the latest call that has not been taken back, and returns its name."""
        if len(self._calls) == 0:
            raise NothingToUndo()
        word, state = self._calls.pop()
        self._state = state
        return word

    def try_changes(self, *changes):
        """The list of what the calls of the changes, one after the other, would return."""
        state = self._state
        told = []
        for change in changes:
            if not _is_change(change):
                raise InvalidChange()
            word, worth = change
            answer, state = self._after(state, word, worth)
            told.append(answer)
        return told

    def told_words(self):
        """How many balls are on the table and how many fell, as a list of strings."""
        balls, fallen, _, _ = self._state
        return [f"balls {len(balls)}", f"fallen {len(fallen)}"]

    def _call(self, word, worth):
        answer, state = self._after(self._state, word, worth)
        self._calls.append((word, self._state))
        self._state = state
        return answer

    def _after(self, state, word, worth):
        """The tuple of what a call in a state returns and of the state behind it."""
        if word == "add":
            return self._after_add(state, worth)
        if word == "roll":
            return self._after_roll(state, worth)
        return self._after_take(state, worth)

    def _after_add(self, state, shot):
        check_shot(self._table, shot)
        balls, fallen, passed, number = state
        return (number, (balls + ((number, shot),), fallen, passed, number + 1))

    def _after_roll(self, state, many):
        if not is_whole(many) or many < 0:
            raise InvalidNumber()
        balls, fallen, passed, following = state
        end = (many, 1)
        staying = []
        falls = []
        for (number, shot), time in zip(balls, self._fall_times(balls)):
            if time is None or earliest([end, time]) != time:
                staying.append((number, shot_at(self._table, shot, end)))
            else:
                falls.append((time, number))
        numbers = _by_times(falls)
        return (numbers, (tuple(staying), fallen + tuple(numbers), passed + many, following))

    def _after_take(self, state, number):
        balls, fallen, passed, following = state
        if not is_whole(number) or number not in [ball for ball, _ in balls]:
            raise InvalidBall()
        staying = tuple([(ball, shot) for ball, shot in balls if ball != number])
        taken = [shot for ball, shot in balls if ball == number]
        return (taken[0], (staying, fallen, passed, following))

    def _fall_times(self, balls):
        """For each of the balls the time of its first hit in a pocket, or None."""
        return [earliest(stretch_times(self._table, shot, self._pockets)) for _, shot in balls]


def _are_pockets(table, value):
    return isinstance(value, tuple) and all([is_stretch(table, item) for item in value])


def _is_change(value):
    """Whether any value is a change, whatever it wants to add, roll or take."""
    if not isinstance(value, tuple) or len(value) != 2:
        return False
    return isinstance(value[0], str) and value[0] in CHANGES


def _by_times(falls):
    """The numbers of balls from tuples (time, number), by the times and then by the numbers."""
    parts = 1
    for time, _ in falls:
        parts = lcm(parts, time[1])
    return [number for _, number in sorted([(top * parts // bottom, number) for (top, bottom), number in falls])]
