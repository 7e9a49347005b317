"""The examples of the document, all in one row, as they stand there."""

import doctest
import unittest
from pathlib import Path

from tests.quick import Watched

DOCUMENT = Path(__file__).resolve().parent.parent.parent / "shared" / "DOC.md"

EXAMPLES = """
    >>> from cushionshots.places import folded, place_at, shot_at, way_at
    >>> t, s = (4, 2), (1, 0, 1, 1)
    >>> [folded(4, (11, 1)), folded(4, (-1, 2)), place_at(t, s, (7, 2)), way_at(t, s, (3, 1)), shot_at(t, s, (4, 1))]
    [(3, 1), (1, 2), ((7, 2), (1, 2)), (-1, -1), (3, 0, -1, 1)]

    >>> from cushionshots.hits import count_cushion, count_hits, hit_words, nth_hit
    >>> from cushionshots.rounds import corner_hit, round_hits, round_time
    >>> [hit_words(t, s, 6), nth_hit(t, s, 1), count_hits(t, s, (7, 1)), count_cushion(t, s, 'S', (16, 1))]
    [['N', 'E', 'S', 'N', 'W', 'S'], ((3, 1), 'E', ((4, 1), (1, 1))), 5, 4]
    >>> [round_time(t, s), round_hits(t, s), corner_hit(t, s), corner_hit(t, (1, 1, 1, 1))]
    [(8, 1), (1, 1, 2, 2), None, 1]

    >>> from cushionshots.pockets import count_in_stretch, first_at, first_in_box, first_in_stretch, first_pocket
    >>> [first_at(t, s, (3, 0)), first_at(t, s, (2, 2)), first_in_box(t, s, (2, 3, 0, 1)), first_in_stretch(t, s, ('W', 0, 1))]
    [(4, 1), None, (1, 1), 4]

    >>> from cushionshots.balls import are_together, count_meetings, first_meeting
    >>> [first_meeting(t, s, (3, 0, -1, 1)), first_meeting(t, s, (0, 0, 1, 1)), are_together(t, s, s)]
    [(1, 1), (7, 2), True]
    >>> count_meetings(t, s, (3, 0, -1, 1), (8, 1))
    2

    >>> from cushionshots.cones import cone, direction_for, words
    >>> [cone(t, (1, 1), ['N']), cone(t, (1, 1), ['N', 'E']), direction_for(t, (1, 1), ['N', 'E']), cone(t, (1, 1), ['N', 'N'])]
    [((3, 1), (-1, 1)), ((3, 1), (1, 1)), (2, 1), None]
    >>> words(t, (1, 1), 1)
    [['E'], ['N'], ['S'], ['W']]

    >>> from cushionshots.apart import first_unlike, telling
    >>> [first_unlike(t, s, (1, 0, 1, 2)), first_unlike(t, s, (1, 0, 2, 2)), telling(t, [s, (1, 0, 1, 2), (2, 1, -1, 0)])]
    [1, None, 2]

    >>> from cushionshots.live import LiveTable
    >>> live = LiveTable(t, (('W', 0, 1),))
    >>> [live.add(s), live.add((3, 1, 0, 1)), live.roll(6), live.balls_now, live.roll(3), live.fallen_now]
    [0, 1, [], ((0, (1, 2, -1, -1)), (1, (3, 1, 0, -1))), [0], (0,)]
"""


def examples_of(text):
    """The examples of a text as tuples of what is asked and what is told."""
    return [(one.source, one.want) for one in doctest.DocTestParser().get_examples(text)]


class DocumentTest(Watched):
    def test_all_examples_together(self):
        test = doctest.DocTestParser().get_doctest(EXAMPLES, {}, "examples", None, 0)
        told = doctest.DocTestRunner().run(test)
        self.assertEqual((told.attempted, told.failed), (20, 0))

    @unittest.skipUnless(DOCUMENT.exists(), "the document is not beside the project")
    def test_they_stand_so_in_the_document(self):
        self.assertEqual(examples_of(DOCUMENT.read_text(encoding="utf-8")), examples_of(EXAMPLES))

    def test_examples_of_the_texts_of_section_9(self):
        from cushionshots.texts import format_table, parse_table

        self.assertEqual((format_table((4, 2)), parse_table("4x2")), ("4x2", (4, 2)))

    def test_examples_within_the_texts_of_section_10(self):
        from cushionshots.errors import BallsMeet
        from cushionshots.kinds import CalmBoundedTable, CalmTable
        from cushionshots.live import LiveTable

        live, calm = LiveTable((4, 2)), CalmTable((4, 2))
        for one in (live, calm):
            one.add((1, 0, 1, 1))
            one.add((1, 0, 1, 2))
        self.assertEqual(live.told_words(), ["balls 2", "fallen 0"])
        with self.assertRaises(BallsMeet) as caught:
            calm.roll(0)
        self.assertEqual(caught.exception.time, (0, 1))
        self.assertEqual(CalmBoundedTable((4, 2)).told_words(), ["balls 0", "fallen 0", "calm", "most 30"])


if __name__ == "__main__":
    unittest.main()
