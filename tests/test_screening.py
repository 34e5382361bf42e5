"""Point [33]: screening."""

import unittest

from orrery.data import Sighting
from orrery.meeting.meetings import meeting
from orrery.meeting.screening import screen

from test_meetings import falling, mover
from worlds import a_body, contents


def sky(*crafts, fineness=0):
    return contents(a_body(1), list(crafts), 1, fineness)


class ScreenTest(unittest.TestCase):
    def test_no_and_one_craft(self):
        self.assertEqual(screen(sky(), 0, 9, 100), [])
        self.assertEqual(screen(sky(mover("a", 0, 0, 0)), 0, 9, 100), [])

    def test_pairs_in_order(self):
        crafts = [mover("a", 0, 0, 0), mover("b", 0, 50, 0), mover("c", 0, 1, 0), mover("d", 0, 53, 0)]
        told = screen(sky(*crafts), 0, 3, 5)
        self.assertEqual(told, [("a", "c", (0, 3, "certain", 1, 1)), ("b", "d", (0, 3, "certain", 3, 3))])
        names = [(first, second) for first, second, _ in screen(sky(*crafts), 0, 3, 100)]
        self.assertEqual(names, [("a", "b"), ("a", "c"), ("a", "d"), ("b", "c"), ("b", "d"), ("c", "d")])

    def test_the_first_span_that_is_not_impossible(self):
        # The difference is 20, 15, 10, 5, 0, -5, -10, each 1 less or more.
        crafts = [mover("a", 0, 20, -5, 1), mover("b", 0, 0, 0)]
        self.assertEqual(screen(sky(*crafts), 0, 6, 6), [("a", "b", (3, 5, "certain", 0, 6))])
        self.assertEqual(screen(sky(*crafts), 0, 6, 10), [("a", "b", (2, 2, "possible", 9, 11))])
        self.assertEqual(screen(sky(*crafts), 0, 2, 6), [])

    def test_void_and_unknown_are_told(self):
        void = mover("v", 0, 500, 0, 0, [Sighting(4, ((-5, -5), (0, 0), (0, 0)))])
        crafts = [mover("a", 0, 0, 0), falling("l", 0), void]
        self.assertEqual(screen(sky(*crafts), 0, 9, 0), [
            ("a", "l", (2, 9, "unknown", None, None)),
            ("a", "v", (4, 9, "void", None, None)),
            ("l", "v", (2, 3, "unknown", None, None)),
        ])
        self.assertEqual(screen(sky(*crafts), 0, 1, 0), [])

    def test_starts_and_spans(self):
        crafts = [mover("a", 3, 0, 0), mover("b", 5, 0, 0), mover("c", 9, 0, 0)]
        told = screen(sky(*crafts), -7, 8, 10 ** 6)
        self.assertEqual([(first, second) + span[:2] for first, second, span in told], [("a", "b", 5, 8)])
        self.assertEqual(screen(sky(*crafts), 4, 2, 10 ** 6), [])

    def test_as_the_meetings_tell(self):
        crafts = [mover("a", 0, 20, -5, 3), mover("b", 1, 0, 0, 2), mover("c", 2, -30, 4, 5)]
        for fineness in (0, 2):
            held = sky(*crafts, fineness=fineness)
            wanted = []
            for i, j in [(0, 1), (0, 2), (1, 2)]:
                spans = meeting(held, crafts[i], crafts[j], 0, 12, 7)
                spans = [span for span in spans if span[2] != "impossible"]
                if spans:
                    wanted.append((crafts[i].name, crafts[j].name, spans[0]))
            self.assertEqual(screen(held, 0, 12, 7), wanted)
            self.assertTrue(wanted)


if __name__ == "__main__":
    unittest.main()
