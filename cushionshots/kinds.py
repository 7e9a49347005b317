"""Live tables on which balls do not meet, or are only so many (section 10)."""

from cushionshots.balls import first_meeting
from cushionshots.errors import BallsMeet, InvalidNumber, TooMany
from cushionshots.live import LiveTable
from cushionshots.reckoning import earliest, is_whole
from cushionshots.texts import written


class CalmTable(LiveTable):
    """A live table on which balls do not meet."""

    def told_words(self):
        """The words of the kind above, and that the table is calm."""
        return super().told_words() + ["calm"]

    def _after_roll(self, state, many):
        told = super()._after_roll(state, many)
        time = self._meeting(state[0], (many, 1))
        if time is not None:
            raise BallsMeet(time)
        return told

    def _meeting(self, balls, end):
        """The least time up to an end at which two balls that have not fallen are at the same place, or None."""
        falls = self._fall_times(balls)
        meetings = []
        for at, (_, shot) in enumerate(balls):
            for before in range(at):
                time = first_meeting(self._table, balls[before][1], shot)
                # Both are on the table up to the earlier one of their falls, this time included.
                if time is not None and earliest([time, end, falls[at], falls[before]]) == time:
                    meetings.append(time)
        return earliest(meetings)


class BoundedTable(LiveTable):
    """A live table with at most so many balls."""

    def __init__(self, table, pockets=(), most=30):
        super().__init__(table, pockets)
        if not is_whole(most) or most < 0:
            raise InvalidNumber()
        self._most = most

    def told_words(self):
        """The words of the kind above, and how many balls there are at most."""
        return super().told_words() + ["most " + written(self._most)]

    def _after_add(self, state, shot):
        told = super()._after_add(state, shot)
        count = len(state[0]) + 1
        if count > self._most:
            raise TooMany(count)
        return told


class CalmBoundedTable(BoundedTable, CalmTable):
    """A live table on which balls do not meet, with at most so many of them."""

    def told_words(self):
        """The words of a calm table, and how many balls there are at most."""
        return super().told_words()
