"""Points [52] and [54]: the boxes of sites."""

import random
import unittest
from fractions import Fraction

from orrery.data import Body, Site
from orrery.space.boxes import box_hull
from orrery.stations.sites import site_at, site_over
from orrery.stations.turning import unit_power

from test_turning import exact_power, outwards

S = 10 ** 18


def turning_body(turn):
    return Body(10 ** 9, 0, turn)


def exact_place(turn, place, tick):
    """The place of a site at a tick, by fractions."""
    c, s = exact_power(turn, tick)
    x, y, z = place
    return (c * x - s * y, s * x + c * y, z)


def slow_box(turn, place, tick):
    """The box of a site at a tick, from all ends of the power."""
    c, s = unit_power(turn, tick)
    x, y, z = place
    told = []
    sums = [([end * x for end in c], [-end * y for end in s]), ([end * x for end in s], [end * y for end in c])]
    for first, second in sums:
        told.append(outwards(Fraction(min(first) + min(second), S), Fraction(max(first) + max(second), S)))
    return (*told, (z, z))


class SiteAtTest(unittest.TestCase):
    def test_at_tick_0(self):
        for place in [(5, 0, 0), (-7, 8, -9), (10 ** 15, -10 ** 15, 10 ** 15), (0, 0, 3)]:
            for turn in [(1, 0, 1), (3, 4, 5), (-5, 12, 13)]:
                self.assertEqual(site_at(turning_body(turn), Site("s", place), 0), tuple((c, c) for c in place))

    def test_at_tick_1(self):
        body = turning_body((3, 4, 5))
        self.assertEqual(site_at(body, Site("s", (10, 0, 7)), 1), ((6, 6), (8, 8), (7, 7)))
        self.assertEqual(site_at(body, Site("s", (0, 10, -7)), 1), ((-8, -8), (6, 6), (-7, -7)))
        self.assertEqual(site_at(body, Site("s", (1, 2, 0)), 1), ((-1, -1), (2, 2), (0, 0)))
        self.assertEqual(site_at(body, Site("s", (1, 0, 0)), 1), ((0, 1), (0, 1), (0, 0)))
        self.assertEqual(site_at(body, Site("s", (-1, 0, 0)), 1), ((-1, 0), (-1, 0), (0, 0)))

    def test_quarters(self):
        body = turning_body((0, 1, 1))
        site = Site("s", (7, -3, 2))
        places = [(7, -3, 2), (3, 7, 2), (-7, 3, 2), (-3, -7, 2)]
        for tick in (*range(8), 10 ** 5, 10 ** 5 + 3):
            x, y, z = places[tick % 4]
            self.assertEqual(site_at(body, site, tick), ((x, x), (y, y), (z, z)))

    def test_a_great_place_at_a_late_tick(self):
        turn, place = (5, 12, 13), (10 ** 15, -10 ** 15, -10 ** 15)
        for tick in (1, 2, 100, 777):
            box = site_at(turning_body(turn), Site("s", place), tick)
            for (low, high), exact in zip(box, exact_place(turn, place, tick)):
                self.assertTrue(low <= exact <= high)
                self.assertLess(high - low, 10 ** 4)
            self.assertEqual(box, slow_box(turn, place, tick))

    def test_the_exact_place_is_inside(self):
        rng = random.Random(3)
        for _ in range(200):
            turn = rng.choice([(3, 4, 5), (-4, 3, 5), (12, -5, 13), (-8, -15, 17), (0, -1, 1)])
            place = tuple(rng.choice([-1, 1]) * rng.randint(0, 10 ** rng.randint(0, 15)) for _ in range(2)) + (1,)
            tick = rng.randint(0, 150)
            box = site_at(turning_body(turn), Site("s", place), tick)
            self.assertEqual(box, slow_box(turn, place, tick))
            self.assertTrue(all(low <= exact <= high
                                for (low, high), exact in zip(box, exact_place(turn, place, tick))))


class SiteOverTest(unittest.TestCase):
    def test_one_tick(self):
        body = turning_body((3, 4, 5))
        site = Site("s", (10, 3, 7))
        for tick in (0, 1, 2, 99999):
            self.assertEqual(site_over(body, site, tick, tick), site_at(body, site, tick))

    def test_the_least_box_that_holds_all(self):
        body = turning_body((0, 1, 1))
        site = Site("s", (7, -3, 2))
        self.assertEqual(site_over(body, site, 0, 1), ((3, 7), (-3, 7), (2, 2)))
        self.assertEqual(site_over(body, site, 1, 2), ((-7, 3), (3, 7), (2, 2)))
        self.assertEqual(site_over(body, site, 0, 3), ((-7, 7), (-7, 7), (2, 2)))
        self.assertEqual(site_over(body, site, 5, 1000), ((-7, 7), (-7, 7), (2, 2)))

    def test_against_all_ticks(self):
        rng = random.Random(4)
        for _ in range(60):
            body = turning_body(rng.choice([(3, 4, 5), (-4, 3, 5), (99, 20, 101), (9999, 200, 10001)]))
            site = Site("s", tuple(rng.randint(-10 ** 6, 10 ** 6) for _ in range(3)))
            begin = rng.randint(0, 99000)
            end = begin + rng.randint(0, 60)
            whole = site_at(body, site, begin)
            for tick in range(begin, end + 1):
                whole = box_hull(whole, site_at(body, site, tick))
            self.assertEqual(site_over(body, site, begin, end), whole)


if __name__ == "__main__":
    unittest.main()
