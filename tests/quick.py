"""A watch over the running time: what goes from hit to hit with great numbers would never end."""

import signal
import unittest

SECONDS = 60


class TooSlow(Exception):
    """An answer took too long."""


class Watched(unittest.TestCase):
    """A test case each test of which must end within SECONDS."""

    def setUp(self):
        self.former = signal.signal(signal.SIGALRM, self.ring)
        signal.alarm(SECONDS)

    def tearDown(self):
        signal.alarm(0)
        signal.signal(signal.SIGALRM, self.former)

    def ring(self, number, frame):
        raise TooSlow("no answer within " + str(SECONDS) + " seconds")
