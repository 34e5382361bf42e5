"""Points [90] and [91]: the charge of batteries over spans of light."""

import itertools
import random
import unittest

from orrery.data import Contents, Sighting
from orrery.errors import BadArgument
from orrery.light.battery import charge, charge_after
from orrery.light.shadow import light

from test_shadow import SUN
from worlds import FEEBLE, STILL, glider


def slow_charge_after(battery, before, spans):
    """Tick by tick."""
    most, use, gain = battery
    least = greatest = lowest = before
    for first, last, word in spans:
        for _ in range(first, last + 1):
            least = max(0, min(most, least - use + (gain if word == "lit" else 0)))
            greatest = max(0, min(most, greatest - use + (gain if word != "dark" else 0)))
        lowest = min(lowest, least)
    return least, greatest, lowest


def some_spans(rng):
    at, spans = rng.randint(0, 9), []
    for _ in range(rng.randint(0, 5)):
        many = rng.randint(1, 6)
        spans.append((at, at + many - 1, rng.choice(["dark", "lit", "either"])))
        at += many
    return spans


class ChargeAfterTest(unittest.TestCase):
    def test_no_span(self):
        self.assertEqual(charge_after((100, 3, 5), 40, []), (40, 40, 40))
        self.assertEqual(charge_after((0, 0, 0), 0, []), (0, 0, 0))

    def test_one_span(self):
        battery = (100, 3, 5)
        self.assertEqual(charge_after(battery, 40, [(7, 11, "lit")]), (50, 50, 40))
        self.assertEqual(charge_after(battery, 40, [(7, 11, "dark")]), (25, 25, 25))
        self.assertEqual(charge_after(battery, 40, [(7, 11, "either")]), (25, 50, 25))
        self.assertEqual(charge_after(battery, 40, [(7, 7, "dark")]), (37, 37, 37))
        # In the light it can sink as well.
        self.assertEqual(charge_after((100, 5, 3), 40, [(7, 11, "lit")]), (30, 30, 30))
        self.assertEqual(charge_after((100, 5, 5), 40, [(7, 11, "lit")]), (40, 40, 40))

    def test_the_most_and_none_at_the_end_of_a_span_and_within(self):
        for ticks, lit, dark in [(5, 98, 4), (6, 100, 1), (7, 100, 0), (8, 100, 0), (1000, 100, 0)]:
            self.assertEqual(charge_after((100, 3, 5), 88, [(1, ticks, "lit")])[1], lit)
            self.assertEqual(charge_after((100, 3, 5), 19, [(1, ticks, "dark")]), (dark, dark, dark))
        self.assertEqual(charge_after((100, 3, 5), 18, [(1, 6, "dark")]), (0, 0, 0))
        self.assertEqual(charge_after((100, 3, 5), 88, [(1, 6, "lit"), (7, 8, "dark")]), (94, 94, 88))
        # What is above the most, or below 0, is lost at once.
        self.assertEqual(charge_after((100, 3, 5), 88, [(1, 60, "lit"), (61, 62, "dark")]), (94, 94, 88))
        self.assertEqual(charge_after((100, 3, 5), 10, [(1, 60, "dark"), (61, 62, "lit")]), (4, 4, 0))

    def test_open_spans(self):
        spans = [(0, 4, "either"), (5, 9, "lit"), (10, 14, "either")]
        self.assertEqual(charge_after((100, 3, 5), 50, spans), (30, 80, 30))
        self.assertEqual(charge_after((60, 3, 5), 50, spans), (30, 60, 30))
        self.assertEqual(charge_after((60, 3, 5), 10, spans), (0, 40, 0))

    def test_the_lowest(self):
        # Ahead of all spans, in the middle, at the end.
        self.assertEqual(charge_after((100, 3, 5), 50, [(0, 4, "lit"), (5, 5, "dark")])[2], 50)
        self.assertEqual(charge_after((100, 3, 5), 50, [(0, 4, "dark"), (5, 30, "lit")])[2], 35)
        self.assertEqual(charge_after((100, 3, 5), 50, [(0, 4, "lit"), (5, 15, "dark")])[2], 27)

    def test_very_many_ticks(self):
        most = 10 ** 18
        spans = [(0, 100000, "lit"), (100001, 10 ** 12, "dark"), (10 ** 12 + 1, 10 ** 15, "lit")]
        self.assertEqual(charge_after((most, 0, 10 ** 12), 0, spans[:1]), (100001 * 10 ** 12,) * 2 + (0,))
        self.assertEqual(charge_after((most, 10 ** 12, 10 ** 12), most, spans), (0, 0, 0))
        self.assertEqual(charge_after((most, 1, 2), 5, spans), (999 * 10 ** 12, 999 * 10 ** 12, 0))

    def test_tick_by_tick(self):
        rng = random.Random(37)
        for _ in range(1500):
            most = rng.randint(0, 40)
            battery = (most, rng.randint(0, 9), rng.randint(0, 15))
            before, spans = rng.randint(0, most), some_spans(rng)
            kept = list(spans)
            self.assertEqual(charge_after(battery, before, spans), slow_charge_after(battery, before, spans))
            self.assertEqual(spans, kept)

    def test_whatever_the_open_ticks_are(self):
        rng = random.Random(38)
        for _ in range(150):
            most = rng.randint(0, 30)
            battery = (most, rng.randint(0, 9), rng.randint(0, 15))
            before, spans = rng.randint(0, most), some_spans(rng)[:3]
            least, greatest, lowest = charge_after(battery, before, spans)
            words = [word for first, last, word in spans for _ in range(first, last + 1)]
            for lights in itertools.product(*[["dark", "lit"] if word == "either" else [word] for word in words]):
                now = before
                for word in lights:
                    now = max(0, min(most, now - battery[1] + (battery[2] if word == "lit" else 0)))
                    self.assertGreaterEqual(now, lowest)
                self.assertTrue(least <= now <= greatest)


class ChargeTest(unittest.TestCase):
    CRAFT = glider("a", 2, (0, -60, -2), (0, 5, 0), 2, [Sighting(13, STILL)])

    def test_over_the_spans_of_light(self):
        held = Contents(FEEBLE, 1, 0)
        spans = light(held, self.CRAFT, 0, 20, 30, SUN)[0]
        self.assertEqual(spans, [(2, 7, "lit"), (8, 8, "either"), (9, 12, "dark"), (13, 20, "either")])
        # 6 ticks of light, 1 open, 4 dark, 8 open; the ticks ahead of the start do not count.
        self.assertEqual(charge(held, self.CRAFT, 0, 20, 30, SUN, (1000, 10, 30), 500), (490, 760, 490))
        for battery, before in [((1000, 10, 30), 500), ((100, 7, 9), 3), ((50, 10, 30), 50), ((0, 0, 0), 0)]:
            told = charge(held, self.CRAFT, 0, 20, 30, SUN, battery, before)
            self.assertEqual(told, slow_charge_after(battery, before, spans))
        self.assertEqual(charge(held, self.CRAFT, 0, 1, 30, SUN, (9, 1, 1), 5), (5, 5, 5))


class ErrorsTest(unittest.TestCase):
    GOOD = [0, 5, 30, SUN, (10, 1, 1), 5]

    def refused(self, name, **changed):
        arguments = list(self.GOOD)
        for number, argument in enumerate(("begin", "end", "radius", "sun", "battery", "before")):
            arguments[number] = changed.get(argument, arguments[number])
        with self.assertRaises(BadArgument) as caught:
            charge(Contents(FEEBLE, 1, 0), glider("a", 0, (0, -9, 0)), *arguments)
        self.assertEqual(caught.exception.name, name)

    def test_bounds(self):
        self.refused("begin", begin=-1)
        self.refused("end", end=100001)
        self.refused("radius", radius=0)
        self.refused("sun", sun=(((1, 0),) * 3, STILL))
        for battery in [(-1, 0, 0), (10 ** 18 + 1, 0, 0), (10, -1, 0), (10, 10 ** 12 + 1, 0), (10, 0, -1),
                        (10, 0, 10 ** 12 + 1)]:
            self.refused("battery", battery=battery, before=0)
        self.refused("charge", before=-1)
        self.refused("charge", before=11)
        self.refused("charge", battery=(0, 1, 1), before=1)

    def test_at_the_bounds(self):
        held, craft = Contents(FEEBLE, 1, 0), glider("a", 0, (0, -9, 0))
        told = charge(held, craft, 0, 0, 30, SUN, (10 ** 18, 10 ** 12, 10 ** 12), 10 ** 18)
        self.assertEqual(told, (10 ** 18 - 10 ** 12,) * 3)
        self.assertEqual(charge(held, craft, 0, 0, 30, SUN, (0, 0, 0), 0), (0, 0, 0))
        self.assertEqual(charge(held, craft, 0, 0, 30, SUN, (10, 0, 0), 10), (10, 10, 10))

    def test_the_order(self):
        bad = {"begin": -1, "end": -2, "radius": 0, "sun": (((1, 0),) * 3, STILL), "battery": (-1, 0, 0), "before": 99}
        for name in ("begin", "end", "radius", "sun", "battery"):
            self.refused(name, **bad)
            del bad[name]
        self.refused("charge", **bad)


if __name__ == "__main__":
    unittest.main()
