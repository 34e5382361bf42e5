"""Points [40] to [44], as far as they have landed: bodies, burns, sightings, crafts and contents."""

import unittest

from orrery.data import Body, Burn, Contents, Craft, Sighting
from orrery.errors import BadArgument

from worlds import STILL, cube


def edge(number, end, worth):
    """A box of zeros but for one end of one interval."""
    box = [[0, 0], [0, 0], [0, 0]]
    box[number][end] = worth
    return tuple(tuple(interval) for interval in box)


class DataTest(unittest.TestCase):
    def refused(self, name, make, *arguments):
        with self.assertRaises(BadArgument) as caught:
            make(*arguments)
        self.assertEqual(caught.exception.name, name, arguments)

    def boxes_refused(self, name, make, most):
        """`make` takes a box; its numbers may go from -most to most."""
        make((((-most, most)), (-most, most), (-most, most)))
        make(((most, most), (-most, -most), (0, 0)))
        for number in range(3):
            self.refused(name, make, edge(number, 0, -most - 1))
            self.refused(name, make, edge(number, 1, most + 1))
            self.refused(name, make, edge(number, 0, 1))
            self.refused(name, make, edge(number, 1, -1))


class BodyTest(DataTest):
    def test_fields(self):
        body = Body(5, 6, (-3, 4, 5))
        self.assertEqual((body.mu, body.oblateness, body.turn), (5, 6, (-3, 4, 5)))

    def test_bounds(self):
        for mu, oblateness, turn in [(1, 0, (1, 0, 1)), (10 ** 30, 10 ** 30, (0, -10 ** 6, 10 ** 6))]:
            self.assertEqual(Body(mu, oblateness, turn).turn, turn)
        for mu in (0, -1, 10 ** 30 + 1):
            self.refused("mu", Body, mu, -1, (1, 1, 1))
        for oblateness in (-1, 10 ** 30 + 1):
            self.refused("oblateness", Body, 1, oblateness, (1, 1, 1))
        for turn in [(1, 1, 1), (0, 0, 0), (3, 4, -5), (10 ** 6 + 1, 0, 10 ** 6 + 1), (3, 4, 6)]:
            self.refused("turn", Body, 1, 0, turn)


class BurnTest(DataTest):
    def test_fields(self):
        burn = Burn(0, 100000, cube(1, 2, 3, 4))
        self.assertEqual((burn.begin, burn.end, burn.push), (0, 100000, cube(1, 2, 3, 4)))

    def test_bounds(self):
        for begin in (-1, 100001):
            self.refused("begin", Burn, begin, -1, edge(0, 0, 1))
        for begin, end in [(0, 0), (5, 4), (0, 100001), (100000, 100001), (100000, 100000), (3, -1)]:
            self.refused("end", Burn, begin, end, edge(0, 0, 1))
        self.boxes_refused("push", lambda box: Burn(3, 4, box), 10 ** 12)


class SightingTest(DataTest):
    def test_fields_and_bounds(self):
        sighting = Sighting(100000, cube(1, 2, 3, 4))
        self.assertEqual((sighting.at, sighting.place), (100000, cube(1, 2, 3, 4)))
        for at in (-1, 100001):
            self.refused("at", Sighting, at, edge(0, 0, 1))
        self.boxes_refused("place", lambda box: Sighting(0, box), 10 ** 15)


class CraftTest(DataTest):
    def test_fields(self):
        burns, sightings = [Burn(1, 2, STILL)], [Sighting(3, STILL)]
        craft = Craft("a_9", 7, cube(1, 2, 3, 4), cube(5, 6, 7, 8), 9, burns, sightings)
        self.assertEqual((craft.name, craft.start, craft.drift), ("a_9", 7, 9))
        self.assertEqual((craft.place, craft.speed), (cube(1, 2, 3, 4), cube(5, 6, 7, 8)))
        self.assertEqual((craft.burns, craft.sightings), (tuple(burns), tuple(sightings)))
        burns.clear()
        sightings.clear()
        self.assertEqual((len(craft.burns), len(craft.sightings)), (1, 1))
        bare = Craft("a", 0, STILL, STILL, 0)
        self.assertEqual((bare.burns, bare.sightings), ((), ()))

    def test_names(self):
        for name in ("a", "0", "_", "abcdefghijkl", "z9_0a"):
            self.assertEqual(Craft(name, 0, STILL, STILL, 0).name, name)
        for name in ("", "abcdefghijklm", "A", "a b", "a-b", "\u00e4", "a\n", "\u0661"):
            self.refused("name", Craft, name, -1, edge(0, 0, 1), edge(0, 0, 1), -1)

    def test_bounds(self):
        bad = edge(0, 0, 1)
        for start in (-1, 100001):
            self.refused("start", Craft, "a", start, bad, bad, -1)
        self.assertEqual(Craft("a", 100000, STILL, STILL, 10 ** 12).drift, 10 ** 12)
        self.refused("place", Craft, "a", 0, bad, bad, -1)
        self.refused("speed", Craft, "a", 0, STILL, bad, -1)
        self.boxes_refused("place", lambda box: Craft("a", 0, box, STILL, 0), 10 ** 15)
        self.boxes_refused("speed", lambda box: Craft("a", 0, STILL, box, 0), 10 ** 15)
        for drift in (-1, 10 ** 12 + 1):
            self.refused("drift", Craft, "a", 0, STILL, STILL, drift)

    def test_orders_and_overlaps_are_not_looked_at(self):
        burns = [Burn(5, 9, STILL), Burn(1, 7, STILL)]
        self.assertEqual(Craft("a", 50, STILL, STILL, 0, burns).burns, tuple(burns))


class ContentsTest(DataTest):
    def test_fields(self):
        body, crafts = Body(1, 0, (1, 0, 1)), [Craft("a", 0, STILL, STILL, 0)]
        sites = []
        contents = Contents(body, 1000, 6, crafts, sites)
        self.assertIs(contents.body, body)
        self.assertEqual((contents.stride, contents.fineness), (1000, 6))
        self.assertEqual((contents.crafts, contents.sites), (tuple(crafts), ()))
        crafts.clear()
        self.assertEqual(len(contents.crafts), 1)
        self.assertEqual((Contents(body, 1, 0).crafts, Contents(body, 1, 0).sites), ((), ()))

    def test_bounds(self):
        body = Body(1, 0, (1, 0, 1))
        for stride in (0, -1, 1001):
            self.refused("stride", Contents, body, stride, -1)
        for fineness in (-1, 7):
            self.refused("fineness", Contents, body, 1, fineness)


if __name__ == "__main__":
    unittest.main()
