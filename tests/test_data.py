"""Points [40] to [44]: bodies, burns, sightings, crafts, sites and contents."""

import unittest

from orrery.data import (
    Body, Burn, Contents, Craft, Sighting, Site, body_data, contents_data, craft_data, same_craft,
)
from orrery.errors import BadArgument

from worlds import STILL, cube


NAMES = ("a", "0", "_", "abcdefghijkl", "z9_0a", "012345678901", "____________")
NO_NAMES = ("", "abcdefghijklm", "A", "a b", "a-b", "\u00e4", "a\n", "\u0661", " ", "aB", "_" * 13)


def edge(number, end, worth):
    """A box of zeros but for one end of one interval."""
    box = [[0, 0], [0, 0], [0, 0]]
    box[number][end] = worth
    return tuple(tuple(interval) for interval in box)


class DataTest(unittest.TestCase):
    def refused(self, name, make, *arguments):
        with self.assertRaises(BadArgument) as caught:
            make(*arguments)
        self.assertEqual(caught.exception.name, name, arguments)

    def boxes_refused(self, name, make, most):
        """`make` takes a box; its numbers may go from -most to most."""
        make((((-most, most)), (-most, most), (-most, most)))
        make(((most, most), (-most, -most), (0, 0)))
        for number in range(3):
            self.refused(name, make, edge(number, 0, -most - 1))
            self.refused(name, make, edge(number, 1, most + 1))
            self.refused(name, make, edge(number, 0, 1))
            self.refused(name, make, edge(number, 1, -1))


class BodyTest(DataTest):
    def test_fields(self):
        body = Body(5, 6, (-3, 4, 5))
        self.assertEqual((body.mu, body.oblateness, body.turn), (5, 6, (-3, 4, 5)))

    def test_bounds(self):
        for mu, oblateness, turn in [(1, 0, (1, 0, 1)), (10 ** 30, 10 ** 30, (0, -10 ** 6, 10 ** 6))]:
            self.assertEqual(Body(mu, oblateness, turn).turn, turn)
        for mu in (0, -1, 10 ** 30 + 1):
            self.refused("mu", Body, mu, -1, (1, 1, 1))
        for oblateness in (-1, 10 ** 30 + 1):
            self.refused("oblateness", Body, 1, oblateness, (1, 1, 1))
        for turn in [(3, 4, 5), (-3, 4, 5), (3, -4, 5), (-3, -4, 5), (-1, 0, 1), (0, 1, 1), (0, -1, 1)]:
            self.assertEqual(Body(1, 0, turn).turn, turn)
        for turn in [(1, 1, 1), (0, 0, 0), (3, 4, -5), (10 ** 6 + 1, 0, 10 ** 6 + 1), (3, 4, 6), (0, 0, 1), (1, 0, -1)]:
            self.refused("turn", Body, 1, 0, turn)


class BurnTest(DataTest):
    def test_fields(self):
        burn = Burn(0, 100000, cube(1, 2, 3, 4))
        self.assertEqual((burn.begin, burn.end, burn.push), (0, 100000, cube(1, 2, 3, 4)))

    def test_bounds(self):
        for begin in (-1, 100001):
            self.refused("begin", Burn, begin, -1, edge(0, 0, 1))
        for begin, end in [(0, 0), (5, 4), (0, 100001), (100000, 100001), (100000, 100000), (3, -1)]:
            self.refused("end", Burn, begin, end, edge(0, 0, 1))
        self.boxes_refused("push", lambda box: Burn(3, 4, box), 10 ** 12)


class SightingTest(DataTest):
    def test_fields_and_bounds(self):
        sighting = Sighting(100000, cube(1, 2, 3, 4))
        self.assertEqual((sighting.at, sighting.place), (100000, cube(1, 2, 3, 4)))
        for at in (-1, 100001):
            self.refused("at", Sighting, at, edge(0, 0, 1))
        self.boxes_refused("place", lambda box: Sighting(0, box), 10 ** 15)


class CraftTest(DataTest):
    def test_fields(self):
        burns, sightings = [Burn(1, 2, STILL)], [Sighting(3, STILL)]
        craft = Craft("a_9", 7, cube(1, 2, 3, 4), cube(5, 6, 7, 8), 9, burns, sightings)
        self.assertEqual((craft.name, craft.start, craft.drift), ("a_9", 7, 9))
        self.assertEqual((craft.place, craft.speed), (cube(1, 2, 3, 4), cube(5, 6, 7, 8)))
        self.assertEqual((craft.burns, craft.sightings), (tuple(burns), tuple(sightings)))
        burns.clear()
        sightings.clear()
        self.assertEqual((len(craft.burns), len(craft.sightings)), (1, 1))
        bare = Craft("a", 0, STILL, STILL, 0)
        self.assertEqual((bare.burns, bare.sightings), ((), ()))
        burn, sighting = Burn(1, 2, STILL), Sighting(3, STILL)
        craft = Craft("a", 0, STILL, STILL, 0, sightings=(sighting,), burns=(burn,))
        self.assertEqual((craft.burns, craft.sightings), ((burn,), (sighting,)))

    def test_names(self):
        for name in NAMES:
            self.assertEqual(Craft(name, 0, STILL, STILL, 0).name, name)
        for name in NO_NAMES:
            self.refused("name", Craft, name, -1, edge(0, 0, 1), edge(0, 0, 1), -1)

    def test_bounds(self):
        bad = edge(0, 0, 1)
        for start in (-1, 100001):
            self.refused("start", Craft, "a", start, bad, bad, -1)
        self.assertEqual(Craft("a", 100000, STILL, STILL, 10 ** 12).drift, 10 ** 12)
        self.refused("place", Craft, "a", 0, bad, bad, -1)
        self.refused("speed", Craft, "a", 0, STILL, bad, -1)
        self.boxes_refused("place", lambda box: Craft("a", 0, box, STILL, 0), 10 ** 15)
        self.boxes_refused("speed", lambda box: Craft("a", 0, STILL, box, 0), 10 ** 15)
        for drift in (-1, 10 ** 12 + 1):
            self.refused("drift", Craft, "a", 0, STILL, STILL, drift)

    def test_orders_and_overlaps_are_not_looked_at(self):
        burns = [Burn(5, 9, STILL), Burn(1, 7, STILL)]
        self.assertEqual(Craft("a", 50, STILL, STILL, 0, burns).burns, tuple(burns))


class ContentsTest(DataTest):
    def test_fields(self):
        body, crafts = Body(1, 0, (1, 0, 1)), [Craft("a", 0, STILL, STILL, 0)]
        sites = [Site("s", (1, 2, 3)), Site("t", (1, 2, 3))]
        contents = Contents(body, 1000, 6, crafts, sites)
        self.assertIs(contents.body, body)
        self.assertEqual((contents.stride, contents.fineness), (1000, 6))
        self.assertEqual((contents.crafts, contents.sites), (tuple(crafts), tuple(sites)))
        crafts.clear()
        sites.clear()
        self.assertEqual((len(contents.crafts), len(contents.sites)), (1, 2))
        again = Contents(body, 1, 0, contents.crafts, sites=contents.sites)
        self.assertEqual((again.crafts, again.sites), (contents.crafts, contents.sites))
        self.assertEqual((Contents(body, 1, 0).crafts, Contents(body, 1, 0).sites), ((), ()))

    def test_bounds(self):
        body = Body(1, 0, (1, 0, 1))
        for stride in (0, -1, 1001):
            self.refused("stride", Contents, body, stride, -1)
        for fineness in (-1, 7):
            self.refused("fineness", Contents, body, 1, fineness)
        self.assertEqual((Contents(body, 1, 6).stride, Contents(body, 1000, 0).fineness), (1, 0))

    def test_orders_and_numbers_are_not_looked_at(self):
        crafts = [Craft("b", 0, STILL, STILL, 0), Craft("a", 0, STILL, STILL, 0)] * 20
        sites = [Site("b", (0, 0, 1))] * 30
        contents = Contents(Body(1, 0, (1, 0, 1)), 1, 0, crafts, sites)
        self.assertEqual((contents.crafts, contents.sites), (tuple(crafts), tuple(sites)))


class SiteTest(DataTest):
    def test_fields_and_names(self):
        site = Site("pole", (0, -7, 5))
        self.assertEqual((site.name, site.place), ("pole", (0, -7, 5)))
        for name in NAMES:
            self.assertEqual(Site(name, (0, 0, 1)).name, name)
        for name in NO_NAMES:
            self.refused("name", Site, name, (0, 0, 0))

    def test_places(self):
        most = 10 ** 15
        self.refused("place", Site, "a", (0, 0, 0))
        for number in range(3):
            for worth, fine in [(most, True), (-most, True), (most + 1, False), (-most - 1, False), (1, True),
                                (-1, True)]:
                place = [0, 0, 0]
                place[number] = worth
                if fine:
                    self.assertEqual(Site("a", tuple(place)).place, tuple(place))
                else:
                    self.refused("place", Site, "a", tuple(place))
        self.assertEqual(Site("a", (most, -most, most)).place, (most, -most, most))


class DataOfTest(unittest.TestCase):
    def setUp(self):
        burns = [Burn(1, 2, cube(1, 2, 3, 4)), Burn(2, 9, STILL)]
        self.craft = Craft("a", 1, cube(1, 2, 3, 4), cube(5, 6, 7, 8), 9, burns, [Sighting(3, cube(9, 9, 9, 1))])

    def test_craft_data(self):
        burns = ((1, 2, cube(1, 2, 3, 4)), (2, 9, STILL))
        wanted = ("a", 1, cube(1, 2, 3, 4), cube(5, 6, 7, 8), 9, burns, ((3, cube(9, 9, 9, 1)),))
        self.assertEqual(craft_data(self.craft), wanted)
        self.assertEqual(craft_data(Craft("b", 0, STILL, STILL, 0)), ("b", 0, STILL, STILL, 0, (), ()))

    def test_body_data(self):
        self.assertEqual(body_data(Body(5, 6, (-3, 4, 5))), (5, 6, (-3, 4, 5)))

    def test_contents_data(self):
        crafts, sites = [self.craft, Craft("b", 0, STILL, STILL, 0)], [Site("s", (1, 2, 3)), Site("t", (4, 5, 6))]
        contents = Contents(Body(5, 6, (-3, 4, 5)), 7, 2, crafts, sites)
        self.assertEqual(contents_data(contents), (
            (5, 6, (-3, 4, 5)), 7, 2, (craft_data(crafts[0]), craft_data(crafts[1])),
            (("s", (1, 2, 3)), ("t", (4, 5, 6))),
        ))
        bare = contents_data(Contents(Body(1, 0, (1, 0, 1)), 1, 0))
        self.assertEqual(bare, ((1, 0, (1, 0, 1)), 1, 0, (), ()))
        hash((contents_data(contents), bare))

    def test_same_craft(self):
        place, speed, push, seen = cube(1, 2, 3, 4), cube(5, 6, 7, 8), cube(1, 1, 1, 1), cube(2, 2, 2, 2)

        def made(name="a", start=1, x=place, v=speed, drift=3, burn=(1, 2, push), sighting=(3, seen), more=0, later=0):
            burns = [Burn(*burn)] + [Burn(8, 9, push)] * more
            return Craft(name, start, x, v, drift, burns, [Sighting(*sighting)] + [Sighting(9, seen)] * later)

        self.assertIs(same_craft(made(), made()), True)
        craft = made()
        self.assertIs(same_craft(craft, craft), True)
        others = [made("b"), made(start=0), made(x=cube(1, 2, 3, 5)), made(v=cube(5, 6, 8, 8)), made(drift=4),
                  made(more=1),
                  made(burn=(0, 2, push)), made(burn=(1, 3, push)), made(burn=(1, 2, seen)), made(sighting=(4, seen)),
                  made(sighting=(3, push)), made(later=1)]
        for other in others:
            self.assertIs(same_craft(made(), other), False)
            self.assertIs(same_craft(other, made()), False)


if __name__ == "__main__":
    unittest.main()
