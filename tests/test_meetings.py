"""Points [28] to [32]: gaps, verdicts, meetings and the closest distance."""

import random
import unittest
from math import isqrt

from orrery.data import Burn, Sighting
from orrery.meeting.meetings import closest, gap, meeting, root_up
from orrery.space.boxes import square_length, box_subtract
from orrery.ways.journeys import Moment, journey
from orrery.ways.parts import State

from worlds import STILL, a_body, a_craft, contents, cube, obeying_motion, orbiter

FAR = 10 ** 12


def mover(name, start, x, rate, half=0, sightings=(), burns=()):
    """A craft so far out that the pull along x is -1; its speed along x is `rate` at the first step."""
    place = ((FAR + x - half, FAR + x + half), (0, 0), (0, 0))
    return a_craft(name, start, place, ((rate + 1, rate + 1), (0, 0), (0, 0)), 0, burns, sightings)


def never_seen(at):
    return Sighting(at, ((-5, -5), (0, 0), (0, 0)))


def falling(name, start):
    """A craft that is lost in the second step."""
    return a_craft(name, start, ((3, 3), (0, 0), (0, 0)), ((-2, -2), (0, 0), (0, 0)), 0)


SKY = contents(a_body(1))


class GapTest(unittest.TestCase):
    def test_one_state_each(self):
        first = Moment(0, [State(((0, 2), (0, 0), (0, 0)), STILL)])
        second = Moment(0, [State(((5, 6), (3, 4), (-1, 1)), STILL)])
        # The differences are from -6 to -3, from -4 to -3, and from -1 to 1.
        self.assertEqual(gap(first, second), (18, 53))
        self.assertEqual(gap(second, first), (18, 53))

    def test_several_states(self):
        first = Moment(0, [State(cube(0, 0, 0, 0), STILL), State(cube(10, 0, 0, 1), STILL)])
        second = Moment(0, [State(cube(14, 0, 0, 1), STILL), State(cube(2, 30, 0, 0), STILL)])
        # From 10 to 14, each 1 wider: 2 to 6 along x, up to 2 along y and z. From (10, 0) to (2, 30): up to 81 + 961.
        self.assertEqual(gap(first, second), (4, 81 + 31 * 31 + 1))

    def test_against_every_pair(self):
        rng = random.Random(13)
        for _ in range(20):
            moments = []
            for count in (rng.randint(1, 5), rng.randint(1, 5)):
                places = [cube(*[rng.randint(-9, 9) for _ in range(3)], rng.randint(0, 3)) for _ in range(count)]
                moments.append(Moment(0, [State(place, STILL) for place in places]))
            gaps = []
            for one in moments[0].states:
                gaps += [square_length(box_subtract(one.place, two.place)) for two in moments[1].states]
            self.assertEqual(gap(*moments), (min(low for low, _ in gaps), max(high for _, high in gaps)))

    def test_places_that_share_a_point(self):
        self.assertEqual(gap(Moment(0, [State(STILL, STILL)]), Moment(0, [State(STILL, STILL)])), (0, 0))
        first = Moment(0, [State(cube(0, 0, 0, 2), STILL)])
        self.assertEqual(gap(first, first), (0, 48))


class RootUpTest(unittest.TestCase):
    def test_roots(self):
        self.assertEqual([root_up(n) for n in range(11)], [0, 1, 2, 2, 2, 3, 3, 3, 3, 3, 4])
        for r in (5, 10 ** 9, 10 ** 40 + 3):
            self.assertEqual([root_up(r * r - 1), root_up(r * r), root_up(r * r + 1)], [r, r, r + 1])


class VerdictTest(unittest.TestCase):
    def test_impossible_possible_and_certain(self):
        # The first craft stays ahead of the second one by 9 to 11.
        first, second = mover("a", 0, 10, 0, 1), mover("b", 0, 0, 0)
        for distance, verdict in [
            (0, "impossible"), (8, "impossible"), (9, "possible"), (10, "possible"), (11, "certain"), (12, "certain"),
        ]:
            told = meeting(SKY, first, second, 0, 3, distance)
            self.assertEqual(told, [(0, 3, verdict, 9, 11)], distance)

    def test_runs_with_their_least_and_greatest_distance(self):
        # From tick 0 on the difference is 20, 15, 10, 5, 0, -5, -10, each 1 less or more.
        first, second = mover("a", 0, 20, -5, 1), mover("b", 0, 0, 0)
        self.assertEqual(meeting(SKY, first, second, 0, 6, 6), [
            (0, 2, "impossible", 9, 21), (3, 5, "certain", 0, 6), (6, 6, "impossible", 9, 11),
        ])
        self.assertEqual(meeting(SKY, first, second, 0, 6, 10), [
            (0, 1, "impossible", 14, 21), (2, 2, "possible", 9, 11), (3, 5, "certain", 0, 6), (6, 6, "possible", 9, 11),
        ])
        self.assertEqual(meeting(SKY, first, second, 1, 4, 6), [(1, 2, "impossible", 9, 16), (3, 4, "certain", 0, 6)])

    def test_the_least_is_rounded_down_and_the_greatest_up(self):
        first = a_craft("a", 0, ((FAR, FAR), (1, 1), (1, 2)), STILL)
        second = a_craft("b", 0, ((FAR, FAR), (0, 0), (0, 0)), STILL)
        told = meeting(SKY, first, second, 0, 0, 2)
        # The square of the distance is from 2 to 5.
        self.assertEqual(told, [(0, 0, "possible", 1, 3)])
        self.assertEqual(closest(SKY, first, second, 0, 0), (1, 3))

    def test_a_distance_of_none(self):
        first, second = mover("a", 0, 10, -5), mover("b", 0, 0, 0)
        wanted = [(0, 1, "impossible", 5, 10), (2, 2, "certain", 0, 0), (3, 3, "impossible", 5, 5)]
        self.assertEqual(meeting(SKY, first, second, 0, 3, 0), wanted)
        wide = mover("a", 0, 0, 0, 1)
        self.assertEqual(meeting(SKY, wide, second, 0, 3, 0), [(0, 3, "possible", 0, 1)])

    def test_the_fineness_of_the_contents(self):
        first = mover("a", 0, 0, 0, 8)
        second = a_craft("b", 0, ((FAR - 3, FAR + 3), (0, 0), (0, 0)), ((1, 1), (0, 0), (0, 0)), 0, [],
                         [Sighting(0, ((FAR + 2, FAR + 3), (0, 0), (0, 0)))])
        for fineness in (0, 3):
            sky = contents(a_body(1), [], 1, fineness)
            moments = [journey(sky.body, fineness, craft, 0).moment(0) for craft in (first, second)]
            low, high = gap(*moments)
            self.assertEqual(meeting(sky, first, second, 0, 0, 1), [(0, 0, "possible", isqrt(low), root_up(high))])
            self.assertEqual(len(moments[0].states), 2 ** fineness)


class MissingTest(unittest.TestCase):
    def setUp(self):
        self.steady = mover("s", 0, 0, 0)
        self.void = mover("v", 0, 5, 0, 0, [never_seen(4)])
        self.lost = falling("l", 0)

    def test_lost_is_unknown(self):
        told = meeting(SKY, self.lost, self.steady, 0, 5, 0)
        self.assertEqual([span[:3] for span in told], [(0, 1, "impossible"), (2, 5, "unknown")])
        self.assertEqual(told[1][3:], (None, None))
        told = meeting(SKY, self.steady, self.lost, 2, 5, 0)
        self.assertEqual(told, [(2, 5, "unknown", None, None)])

    def test_void(self):
        wanted = [(0, 3, "certain", 5, 5), (4, 9, "void", None, None)]
        self.assertEqual(meeting(SKY, self.void, self.steady, 0, 9, 5), wanted)
        self.assertEqual(meeting(SKY, self.steady, self.void, 0, 9, 5), wanted)

    def test_void_ahead_of_unknown(self):
        for pair in [(self.lost, self.void), (self.void, self.lost)]:
            told = meeting(SKY, *pair, 1, 9, 0)
            self.assertEqual([span[:3] for span in told], [(1, 1, "impossible"), (2, 3, "unknown"), (4, 9, "void")])

    def test_a_broken_tick_at_the_end(self):
        told = meeting(SKY, self.lost, self.void, 1, 4, 0)
        self.assertEqual([span[:3] for span in told], [(1, 1, "impossible"), (2, 3, "unknown"), (4, 4, "void")])
        told = meeting(SKY, self.void, self.lost, 3, 4, 0)
        self.assertEqual(told, [(3, 3, "unknown", None, None), (4, 4, "void", None, None)])

    def test_both_void_or_both_lost(self):
        early = mover("w", 0, 5, 0, 0, [never_seen(2)])
        told = meeting(SKY, early, self.void, 0, 9, 9)
        self.assertEqual(told, [(0, 1, "certain", 0, 0), (2, 9, "void", None, None)])
        told = meeting(SKY, self.lost, falling("m", 3), 0, 9, 9)
        self.assertEqual(told, [(3, 9, "unknown", None, None)])

    def test_lost_behind_void_stays_void(self):
        wet = mover("w", 0, 5, 0, 0, [never_seen(0)])
        self.assertEqual(meeting(SKY, wet, self.lost, 0, 9, 9), [(0, 9, "void", None, None)])

    def test_the_ending_counts_only_up_to_the_span(self):
        self.assertEqual(meeting(SKY, self.void, self.steady, 0, 3, 5), [(0, 3, "certain", 5, 5)])

    def test_a_last_tick_without_bound(self):
        end = 10 ** 30
        told = meeting(SKY, self.void, self.lost, -end, end, 0)
        self.assertEqual([span[:3] for span in told], [(0, 1, "impossible"), (2, 3, "unknown"), (4, end, "void")])
        self.assertIsNone(closest(SKY, self.void, self.lost, -end, end))


class ExtentTest(unittest.TestCase):
    def test_begins_below_zero_and_ahead_of_the_starts(self):
        first, second = mover("a", 4, 10, 0), mover("b", 7, 10, 0)
        spans = meeting(SKY, first, second, -50, 9, 100)
        self.assertEqual([span[:2] for span in spans], [(7, 9)])
        self.assertEqual(meeting(SKY, second, first, -50, 9, 100), spans)
        self.assertEqual([span[:2] for span in meeting(SKY, first, second, 5, 9, 100)], [(7, 9)])
        self.assertEqual([span[:2] for span in meeting(SKY, first, second, 8, 9, 100)], [(8, 9)])
        self.assertEqual([span[:2] for span in meeting(SKY, first, second, 9, 9, 100)], [(9, 9)])

    def test_no_tick(self):
        first, second = mover("a", 4, 10, 0), mover("b", 7, 10, 0)
        for begin, end in [(0, 6), (0, 3), (9, 8), (-9, -4), (50, 40)]:
            self.assertEqual(meeting(SKY, first, second, begin, end, 100), [])
            self.assertIsNone(closest(SKY, first, second, begin, end))

    def test_the_craft_with_itself(self):
        craft = mover("a", 2, 0, 0)
        self.assertEqual(meeting(SKY, craft, craft, 0, 5, 0), [(2, 5, "certain", 0, 0)])


class ClosestTest(unittest.TestCase):
    def test_the_least_low_and_the_least_high(self):
        first, second = mover("a", 0, 23, -5, 1), mover("b", 0, 0, 0)
        # The difference is 23, 18, 13, 8, 3, -2, -7, each 1 less or more.
        self.assertEqual(closest(SKY, first, second, 0, 3), (7, 9))
        self.assertEqual(closest(SKY, first, second, 0, 4), (2, 4))
        self.assertEqual(closest(SKY, first, second, 0, 6), (1, 3))
        self.assertEqual(closest(SKY, first, second, 0, 0), (22, 24))

    def test_the_two_numbers_can_be_of_different_ticks(self):
        # Of the first craft the speed along y is not known well, so at tick 1 its box is wider.
        first = a_craft("a", 0, ((FAR, FAR), (10, 10), (0, 0)), ((1, 1), (-3, 3), (0, 0)), 0)
        second = a_craft("b", 0, ((FAR, FAR), (0, 0), (0, 0)), ((1, 1), (1, 1), (0, 0)), 0)
        low, high = closest(SKY, first, second, 0, 1)
        told = [closest(SKY, first, second, at, at) for at in (0, 1)]
        self.assertEqual(told[0], (10, 10))
        self.assertLess(told[1][0], 10)
        self.assertGreater(told[1][1], 10)
        self.assertEqual((low, high), (told[1][0], 10))

    def test_none_if_a_tick_is_void_or_unknown(self):
        steady = mover("s", 0, 0, 0)
        void = mover("v", 0, 5, 0, 0, [never_seen(4)])
        self.assertEqual(closest(SKY, void, steady, 0, 3), (5, 5))
        self.assertIsNone(closest(SKY, void, steady, 0, 4))
        self.assertIsNone(closest(SKY, falling("l", 0), steady, 0, 2))
        self.assertIsNotNone(closest(SKY, falling("l", 0), steady, 0, 1))


class MotionsTest(unittest.TestCase):
    def test_what_is_told_of_two_motions(self):
        rng = random.Random(14)
        verdicts = set()
        for number in range(40):
            body = a_body(10 ** 9, rng.choice([0, 10 ** 16]))
            burns = [Burn(4, 8, cube(0, -40, 3, 1))]
            first = orbiter("a", 3)
            second = a_craft("b", 5, cube(10030, 760, -262, 6), cube(-8, 290, 18, 2), 1, burns)
            sky = contents(body, [], 1, number % 3)
            motions = [obeying_motion(rng, body, craft, 18) for craft in (first, second)]
            distance = rng.choice([70, 300, 900])
            squares = {}
            for at in range(5, 19):
                p, q = motions[0][at - 3][0], motions[1][at - 5][0]
                squares[at] = sum((c - d) ** 2 for c, d in zip(p, q))
            ticks = []
            for begin, end, verdict, least, most in meeting(sky, first, second, 0, 18, distance):
                verdicts.add(verdict)
                for at in range(begin, end + 1):
                    ticks.append(at)
                    self.assertTrue(least ** 2 <= squares[at] <= most ** 2)
                    if verdict != "possible":
                        self.assertEqual(squares[at] <= distance ** 2, verdict == "certain")
            self.assertEqual(ticks, list(range(5, 19)))
            low, high = closest(sky, first, second, 0, 18)
            self.assertTrue(low ** 2 <= min(squares.values()) <= high ** 2)
        self.assertEqual(verdicts, {"impossible", "possible", "certain"})


if __name__ == "__main__":
    unittest.main()
