"""The errors of the package, all of them below ShotError."""


class ShotError(ValueError):
    """The base class of all errors of the package."""


class InvalidTable(ShotError):
    """A value is not a table."""


class InvalidShot(ShotError):
    """A value is not a shot on the table."""


class InvalidSide(ShotError):
    """A side is not an integer from 1 on."""


class InvalidTime(ShotError):
    """A time or a number is not a fraction."""


class InvalidNumber(ShotError):
    """A number is not an integer from the least one on that is asked for."""


class InvalidIndex(ShotError):
    """An index is not an integer from 0 on."""


class InvalidCushion(ShotError):
    """A cushion is not one of the four letters."""


class InvalidSpot(ShotError):
    """A value is not a spot on the table."""


class InvalidBox(ShotError):
    """A value is not a box on the table."""


class InvalidStretch(ShotError):
    """A value is not a stretch of a cushion of the table."""


class InvalidStretches(ShotError):
    """A value is not a list of stretches."""


class InvalidPockets(ShotError):
    """A value is not a tuple of stretches."""


class InvalidCushions(ShotError):
    """A value is not a list of cushions."""


class InvalidShots(ShotError):
    """A value is not a list of shots."""


class InvalidBall(ShotError):
    """A number is not that of a ball on the table."""


class InvalidText(ShotError):
    """A value is not such a text."""


class InvalidChange(ShotError):
    """A value is not a change of a live table."""


class AlwaysTogether(ShotError):
    """Two balls are at the same place at all times."""


class NotABall(ShotError):
    """A value is not a ball."""


class OtherTable(ShotError):
    """Two balls roll on tables that are not equal."""


class NothingToUndo(ShotError):
    """There is no call that can be taken back."""


class BallsMeet(ShotError):
    """Two balls are at the same place at a time."""

    def __init__(self, time):
        super().__init__("two balls are at the same place")
        self.time = time


class TooMany(ShotError):
    """There would be this count of balls on the table."""

    def __init__(self, count):
        super().__init__("there would be too many balls on the table")
        self.count = count
