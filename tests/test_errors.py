"""The error classes ([3] and the interface)."""

import unittest

from cushionshots import errors
from cushionshots.errors import BallsMeet, ShotError, TooMany

PLAIN = (
    "InvalidTable InvalidShot InvalidSide InvalidTime InvalidNumber InvalidIndex InvalidCushion InvalidSpot "
    "InvalidBox InvalidStretch InvalidStretches InvalidPockets InvalidCushions InvalidShots InvalidBall InvalidText "
    "InvalidChange AlwaysTogether NotABall OtherTable NothingToUndo"
).split()


class ErrorsTest(unittest.TestCase):
    def test_shot_error_is_a_value_error(self):
        self.assertTrue(issubclass(ShotError, ValueError))
        with self.assertRaises(ValueError):
            raise ShotError()

    def test_every_plain_error_takes_no_arguments(self):
        for name in PLAIN:
            with self.subTest(name):
                error = getattr(errors, name)()
                self.assertIsInstance(error, ShotError)
                self.assertIsInstance(error, ValueError)

    def test_no_class_but_shot_error_is_above_another_one(self):
        classes = [getattr(errors, name) for name in PLAIN + ["BallsMeet", "TooMany"]]
        self.assertEqual(len(set(classes)), 23)
        for one in classes:
            self.assertTrue(issubclass(one, ShotError))
            self.assertIsNot(one, ShotError)
            for other in classes:
                self.assertEqual(issubclass(one, other), one is other, (one, other))

    def test_attributes(self):
        self.assertEqual(BallsMeet((7, 2)).time, (7, 2))
        self.assertEqual(BallsMeet(time=(0, 1)).time, (0, 1))
        self.assertEqual(TooMany(31).count, 31)
        self.assertEqual(TooMany(count=1).count, 1)

    def test_raised_ones_keep_their_attributes(self):
        with self.assertRaises(ShotError) as caught:
            raise BallsMeet((1, 3))
        self.assertEqual(caught.exception.time, (1, 3))
        with self.assertRaises(ShotError) as caught:
            raise TooMany(5)
        self.assertEqual(caught.exception.count, 5)


if __name__ == "__main__":
    unittest.main()
