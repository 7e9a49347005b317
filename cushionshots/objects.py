"""A shot on a table as an object (section 9)."""

from cushionshots.balls import first_meeting
from cushionshots.errors import NotABall, OtherTable
from cushionshots.places import check_shot, place_at, turned
from cushionshots.pockets import first_at, is_spot


class Ball:
    """A shot on a table. It never changes."""

    def __init__(self, table, shot):
        check_shot(table, shot)
        self._table = table
        self._shot = shot

    @property
    def table(self):
        """The table on which the ball rolls."""
        return self._table

    @property
    def shot(self):
        """The shot of the ball."""
        return self._shot

    def __call__(self, time):
        """The place of the ball at a time."""
        return place_at(self._table, self._shot, time)

    def __neg__(self):
        """The ball of the turned shot."""
        return Ball(self._table, turned(self._shot))

    def __and__(self, other):
        """The first meeting with another ball on an equal table, a time or None."""
        if not isinstance(other, Ball):
            raise NotABall()
        if self._table != other._table:
            raise OtherTable()
        return first_meeting(self._table, self._shot, other._shot)

    def __eq__(self, other):
        return isinstance(other, Ball) and self._table == other._table and self._shot == other._shot

    def __contains__(self, x):
        """Whether any value is a spot on the table to which the ball comes."""
        return is_spot(self._table, x) and first_at(self._table, self._shot, x) is not None
