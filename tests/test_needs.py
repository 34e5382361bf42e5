"""Points [81] to [83]: halved data, and how often data have to be halved for a question to be decided."""

import random
import unittest

from orrery.data import Body, Burn, Contents, Craft, Sighting, Site, craft_data
from orrery.errors import BadArgument
from orrery.meeting.meetings import meeting
from orrery.needs.needs import halved, halved_craft, need_far, need_pass, need_thin
from orrery.space.intervals import inside, width
from orrery.stations.passes import MOST_MASK, passes
from orrery.ways.courses import course

from worlds import FAR, FEEBLE, STILL, a_craft, cube, glider, orbiter

SITE = Site("s", (-FAR, 0, 0))


def sky(stride=1, fineness=0, body=FEEBLE):
    return Contents(body, stride, fineness)


def wide(name="a", start=0, place=(0, 0, 0), half=0, rate=(0, 0, 0), spread=0, sightings=(), burns=()):
    """A craft whose place and speed are known up to `half` and `spread`, all three numbers of them."""
    x, y, z = place
    return a_craft(name, start, cube(x - FAR, y, z, half), cube(*rate, spread), 0, burns, sightings)


def slow_need(craft, is_decided):
    told = []
    for what in ("place", "speed", "both"):
        counts = [count for count in range(11) if is_decided(halved_craft(craft, what, count))]
        told.append(min(counts, default=None))
    return tuple(told)


class HalvedTest(unittest.TestCase):
    def test_by_the_numbers(self):
        for interval, wanted in [
            ((0, 16), [(0, 16), (4, 12), (6, 10), (7, 9), (8, 8), (8, 8)]),
            ((0, 15), [(0, 15), (4, 11), (6, 9), (7, 8), (7, 7), (7, 7)]),
            ((-15, 0), [(-15, 0), (-11, -4), (-9, -6), (-8, -7), (-8, -8), (-8, -8)]),
            ((-5, 4), [(-5, 4), (-3, 1), (-2, 0), (-1, -1)]),
            ((0, 1), [(0, 1), (0, 0)]), ((-1, 0), [(-1, 0), (-1, -1)]), ((7, 7), [(7, 7), (7, 7)]),
            ((-10 ** 15, 10 ** 15), [(-10 ** 15, 10 ** 15), (-5 * 10 ** 14, 5 * 10 ** 14)]),
        ]:
            self.assertEqual([halved(interval, count) for count in range(len(wanted))], wanted)

    def test_very_often(self):
        self.assertEqual(halved((-10 ** 30, 10 ** 30 + 1), 10 ** 6), (0, 0))

    def test_inside_and_not_wider_than_told(self):
        rng = random.Random(30)
        for _ in range(500):
            low = rng.randint(-10 ** 6, 10 ** 6)
            interval = (low, low + rng.randint(0, 10 ** rng.randint(0, 6)))
            half = (interval[0] + interval[1]) // 2
            below, above = half - interval[0], interval[1] - half
            before = interval
            for count in range(25):
                told = halved(interval, count)
                self.assertEqual(told, (half - below, half + above))
                self.assertTrue(inside(told, before))
                self.assertLessEqual(width(told), width(interval) // 2 ** count)
                before, below, above = told, below // 2, above // 2


class HalvedCraftTest(unittest.TestCase):
    def test_each_word(self):
        burns, seen = [Burn(4, 6, cube(1, 2, 3, 8))], [Sighting(5, cube(0, 0, 0, 900))]
        place, speed = ((0, 16), (-8, 8), (5, 5)), ((-4, 4), (0, 15), (1, 2))
        craft = Craft("a", 3, place, speed, 9, burns, seen)
        small = ((6, 10), (-2, 2), (5, 5)), ((-1, 1), (6, 9), (1, 1))
        for what, wanted in [("place", (small[0], speed)), ("speed", (place, small[1])), ("both", small)]:
            told = halved_craft(craft, what, 2)
            self.assertEqual(craft_data(told), ("a", 3, *wanted, 9, *craft_data(craft)[5:]))
            self.assertEqual(craft_data(halved_craft(craft, what, 0)), craft_data(craft))
        self.assertEqual((craft.place, craft.speed), (place, speed))


class NeedFarTest(unittest.TestCase):
    def need(self, first, second, begin, end, distance, wanted, held=sky()):
        kept = (craft_data(first), craft_data(second))
        self.assertEqual(need_far(held, first, second, begin, end, distance), wanted)
        self.assertEqual((craft_data(first), craft_data(second)), kept)

        def is_far(tried):
            return all(span[2] == "impossible" for span in meeting(held, tried, second, begin, end, distance))

        self.assertEqual(slow_need(first, is_far), wanted)

    def test_decided_at_once(self):
        first, second = wide("a", 0, (-100, -200, -200), 8), wide("b", 0, (-100, -300, -200))
        self.need(first, second, 0, 5, 91, (0, 0, 0))

    def test_after_some_halvings(self):
        first, second = wide("a", 0, (-100, -200, -200), 64), wide("b", 0, (-100, -300, -200))
        # Of 64 to both sides 36, 68, 84 .. are left between them.
        self.need(first, second, 0, 5, 35, (0, 0, 0))
        self.need(first, second, 0, 5, 36, (1, None, 1))
        self.need(first, second, 0, 5, 67, (1, None, 1))
        self.need(first, second, 0, 5, 68, (2, None, 2))
        self.need(first, second, 0, 5, 99, (7, None, 7))
        self.need(first, second, 0, 5, 100, (None, None, None))

    def test_ten_halvings_are_the_most(self):
        first, second = wide("a", 0, (-9000, -9000, -9000), 1024), wide("b", 0, (-9000, -11000, -9000))
        self.need(first, second, 0, 0, 1998, (10, None, 10))
        wider = wide("a", 0, (-9000, -9000, -9000), 2048)
        self.need(wider, wide("b", 0, (-9000, -12000, -9000)), 0, 0, 2997, (10, None, 10))
        self.need(wider, wide("b", 0, (-9000, -12000, -9000)), 0, 0, 2998, (None, None, None))

    def test_the_three_numbers_apart(self):
        first, second = wide("a", 0, (-100, -300, -400), 16, (0, 0, 0), 4), wide("b", 0, (-100, -400, -400))
        # At tick 5 both add up: 16 of the place, 20 of the speed.
        self.need(first, second, 5, 5, 63, (0, 0, 0))
        self.need(first, second, 5, 5, 64, (1, 1, 1))
        self.need(first, second, 5, 5, 79, (5, 3, 1))
        self.need(first, second, 5, 5, 80, (None, 3, 1))
        self.need(first, second, 5, 5, 83, (None, 3, 2))
        self.need(first, second, 5, 5, 84, (None, None, 2))

    def test_a_craft_against_itself(self):
        craft = wide("a", 0, (-100, -200, -200), 64)
        self.need(craft, craft, 0, 5, 0, (None, None, None))
        # The second one stays as it is: the first one is still within its box.
        self.need(craft, craft, 0, 5, 10 ** 6, (None, None, None))

    def test_crafts_that_start_behind_the_span(self):
        first, second = wide("a", 6, (-100, -200, -200), 64), wide("b", 0, (-100, -200, -200))
        self.need(first, second, 0, 5, 36, (0, 0, 0))
        self.need(second, first, 0, 5, 36, (0, 0, 0))
        self.need(first, second, 0, 6, 36, (None, None, None))

    def test_void_and_unknown_are_not_far(self):
        void = wide("b", 0, (-100, -9000, -200), 0, sightings=[Sighting(3, STILL)])
        first = wide("a", 0, (-100, -200, -200), 64)
        self.need(first, void, 0, 2, 36, (0, 0, 0))
        self.need(first, void, 0, 3, 36, (None, None, None))
        # Halved twice, nothing of the craft is in the box of its sighting: that does not make it far.
        seen = wide("a", 0, (-100, -200, -200), 64, sightings=[Sighting(0, cube(-100 - FAR, -250, -200, 1))])
        self.need(seen, wide("b", 0, (-100, -290, -200)), 0, 5, 30, (0, 0, 0))
        self.need(seen, wide("b", 0, (-100, -290, -200)), 0, 5, 40, (None, None, None))

    def test_the_fineness_of_the_contents(self):
        rng = random.Random(31)
        body = Body(10 ** 9, 0, (1, 0, 1))
        for fineness in (0, 2):
            first = Craft("a", 3, cube(10000, 200, -300, 30), cube(10, 300, 20, 9), 1)
            second = orbiter("b", 4)
            for _ in range(4):
                distance = rng.randint(200, 900)
                held = Contents(body, 1, fineness)
                told = need_far(held, first, second, 4, 9, distance)
                self.need(first, second, 4, 9, distance, told, held)


class NeedThinTest(unittest.TestCase):
    def need(self, craft, at, most, wanted, held=sky()):
        kept = craft_data(craft)
        self.assertEqual(need_thin(held, craft, at, most), wanted)
        self.assertEqual(craft_data(craft), kept)

        def is_thin(tried):
            if at == tried.start:
                box = tried.place
            else:
                there = [piece for piece in course(held, tried, at).pieces if piece.begin <= at <= piece.end]
                if not there:
                    return False
                box = there[0].during()
            return all(high - low <= most for low, high in box)

        self.assertEqual(slow_need(craft, is_thin), wanted)

    def test_at_the_start(self):
        craft = wide("a", 3, (-100, -200, -200), 64, (0, 0, 0), 10)
        for most, wanted in [(128, 0), (127, 1), (64, 1), (63, 2), (2, 6), (1, 7), (0, 7)]:
            self.need(craft, 3, most, (wanted, None if wanted else 0, wanted))

    def test_at_the_start_whatever_was_seen(self):
        seen = wide("a", 3, (-100, -200, -200), 64, sightings=[Sighting(3, cube(-100 - FAR, -200, -200, 1))])
        self.need(seen, 3, 2, (6, None, 6))
        self.need(seen, 4, 2, (0, 0, 0))
        nowhere = wide("a", 3, (-100, -200, -200), 4, sightings=[Sighting(3, STILL)])
        self.need(nowhere, 3, 8, (0, 0, 0))
        self.need(nowhere, 4, 8, (None, None, None))

    def test_at_another_tick(self):
        craft = wide("a", 3, (-100, -200, -200), 16, (0, 0, 0), 4)
        # At tick 5 it is 16 + 2 * 4 to each side.
        self.need(craft, 5, 48, (0, 0, 0))
        self.need(craft, 5, 47, (1, 1, 1))
        self.need(craft, 5, 32, (1, 3, 1))
        self.need(craft, 5, 31, (2, None, 1))
        self.need(craft, 5, 16, (5, None, 2))
        self.need(craft, 5, 15, (None, None, 2))
        self.need(craft, 5, 0, (None, None, 5))

    def test_the_piece_with_the_tick_counts(self):
        craft = glider("a", 3, (-100, -200, -200), (4, 0, 0))
        self.need(craft, 4, 0, (0, 0, 0))
        self.need(craft, 4, 11, (None, None, None), sky(4))
        self.need(craft, 4, 12, (0, 0, 0), sky(4))
        self.need(craft, 3, 0, (0, 0, 0), sky(4))

    def test_no_piece_with_the_tick(self):
        craft = wide("a", 3, (-100, -200, -200), 16)
        self.need(craft, 2, 10 ** 15, (None, None, None))
        void = wide("a", 3, (-100, -200, -200), 16, sightings=[Sighting(6, STILL)])
        self.need(void, 5, 32, (0, 0, 0))
        self.need(void, 6, 32, (None, None, None))
        self.need(void, 5, 32, (None, None, None), sky(2))

    def test_halving_can_leave_nothing(self):
        # With the sighting at one side, the halved place is no more seen.
        box = ((-164 - FAR, -100 - FAR), (-264, -230), (-264, -136))
        seen = wide("a", 0, (-100, -200, -200), 64, sightings=[Sighting(1, box)])
        self.need(seen, 1, 10 ** 3, (0, 0, 0))
        self.need(seen, 1, 64, (1, None, 1))
        self.need(seen, 1, 63, (None, None, None))
        self.need(seen, 1, 20, (None, None, None))


class NeedPassTest(unittest.TestCase):
    def need(self, craft, begin, end, mask, wanted, held=sky(), site=SITE):
        kept = craft_data(craft)
        self.assertEqual(need_pass(held, craft, site, begin, end, mask), wanted)
        self.assertEqual(craft_data(craft), kept)

        def is_told(tried):
            if tried.start > end:
                return True
            told = passes(held, tried, site, begin, end, mask)
            return bool(told) and told[-1][1] == end and "possible" not in [verdict for _, _, verdict in told]

        self.assertEqual(slow_need(craft, is_told), wanted)

    def test_decided_at_once(self):
        self.need(glider("a", 0, (-30, -60, 0), (0, 5, 0)), 0, 12, 6 * 10 ** 8, (0, 0, 0))
        self.need(wide("a", 0, (-100, -100, -100), 8), 0, 5, 0, (0, 0, 0))

    def test_after_some_halvings(self):
        craft = wide("a", 0, (-60, -80, -64), 64)
        told = need_pass(sky(), craft, SITE, 0, 5, 3 * 10 ** 8)
        self.assertGreater(told[0], 0)
        self.need(craft, 0, 5, 3 * 10 ** 8, told)
        self.assertIsNone(told[1])

    def test_the_three_numbers_apart(self):
        craft = wide("a", 0, (-100, -100, -400), 16, (0, 0, -8), 4)
        numbers = set()
        for mask in range(0, 10 ** 9, 10 ** 8):
            told = need_pass(sky(), craft, SITE, 3, 5, mask)
            self.need(craft, 3, 5, mask, told)
            numbers.add(told)
        self.assertGreater(len(numbers), 1)
        self.assertTrue([told for told in numbers if len(set(told)) > 1])

    def test_never_decided(self):
        # In the piece from 0 to 3 it comes from below the horizon to above it.
        craft = glider("a", 0, (2, 0, 0), (-1, 0, 0))
        self.need(craft, 0, 3, 0, (None, None, None), sky(4))

    def test_the_passes_go_up_to_the_last_tick(self):
        void = wide("a", 2, (-100, 0, -1), 1, sightings=[Sighting(6, STILL)])
        self.need(void, 0, 5, 0, (0, 0, 0))
        self.need(void, 0, 6, 0, (None, None, None))
        self.need(void, 7, 9, 0, (None, None, None))

    def test_where_they_begin_plays_no_part(self):
        self.need(glider("a", 5, (-100, 0, 0)), 0, 5, 0, (0, 0, 0))

    def test_a_craft_that_starts_behind(self):
        self.need(glider("a", 6, (2, 0, 0), (-1, 0, 0)), 0, 5, 0, (0, 0, 0), sky(4))
        self.need(glider("a", 5, (2, 0, 0), (-1, 0, 0)), 0, 5, 0, (None, None, None), sky(4))

    def test_a_site_that_turns(self):
        rng = random.Random(32)
        body = Body(10 ** 9, 0, (3, 4, 5))
        numbers = set()
        for number in range(12):
            craft = Craft("a", 3, cube(10000, 200, -300, 200), cube(10, 300, 20, 30), 1)
            mask = rng.choice([0, 10 ** 8, 6 * 10 ** 8])
            held = Contents(body, 1 + number % 2, number % 3)
            begin = rng.randint(3, 6)
            told = need_pass(held, craft, Site("s", (9000, 100, 50)), begin, begin + 1, mask)
            self.need(craft, begin, begin + 1, mask, told, held, Site("s", (9000, 100, 50)))
            numbers.add(told)
        self.assertGreater(len(numbers), 1)


class ErrorsTest(unittest.TestCase):
    def refused(self, name, call, *arguments):
        with self.assertRaises(BadArgument) as caught:
            call(sky(), glider(), *arguments)
        self.assertEqual(caught.exception.name, name)

    def test_far(self):
        other = glider("b")
        self.refused("begin", need_far, other, -1, 5, 0)
        self.refused("begin", need_far, other, 100001, 100001, 0)
        self.refused("end", need_far, other, 5, 4, 0)
        self.refused("end", need_far, other, 5, 100001, 0)
        self.refused("distance", need_far, other, 5, 5, -1)
        self.refused("begin", need_far, other, -1, -2, -1)
        self.refused("end", need_far, other, 0, -2, -1)
        self.assertEqual(need_far(sky(), glider(), glider("b", 0, (-1, 0, 0)), 0, 0, 0), (0, 0, 0))

    def test_thin(self):
        self.refused("at", need_thin, -1, 5)
        self.refused("at", need_thin, 100001, 5)
        self.refused("most", need_thin, 0, -1)
        self.refused("most", need_thin, 0, 10 ** 15 + 1)
        self.refused("at", need_thin, -1, -1)
        self.assertEqual(need_thin(sky(), glider("a", 100000), 100000, 10 ** 15), (0, 0, 0))

    def test_pass(self):
        self.refused("begin", need_pass, SITE, -1, 5, 0)
        self.refused("begin", need_pass, SITE, 100001, 100001, 0)
        self.refused("end", need_pass, SITE, 5, 4, 0)
        self.refused("end", need_pass, SITE, 5, 100001, 0)
        self.refused("mask", need_pass, SITE, 5, 5, -1)
        self.refused("mask", need_pass, SITE, 5, 5, MOST_MASK + 1)
        self.refused("begin", need_pass, SITE, -1, -2, -1)
        self.refused("end", need_pass, SITE, 0, -2, -1)
        # Also where the craft starts behind the span.
        with self.assertRaises(BadArgument):
            need_pass(sky(), glider("a", 9), SITE, 0, 5, -1)


if __name__ == "__main__":
    unittest.main()
