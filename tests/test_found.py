"""Point [65]: the contacts of a catalogue."""

import random
import unittest

from orrery.data import Body, Contents, Sighting, Site
from orrery.errors import BadArgument
from orrery.plans.found import contacts_of
from orrery.stations.passes import MOST_MASK, passes

from worlds import FAR, FEEBLE, cube, glider, orbiter

MASK = 6 * 10 ** 8
SITES = [Site("s", (-FAR, 0, 0)), Site("t", (-FAR - 10, 0, 0)), Site("u", (FAR, 0, 0))]


def coming(name, start=0, beside=60):
    """30 above the first site, and 5 nearer at each tick: high enough from 40 beside on."""
    return glider(name, start, (-30, -beside, 0), (0, 5, 0))


def sky(crafts, sites=SITES, stride=1):
    return Contents(FEEBLE, stride, 0, crafts, sites)


def slow_contacts(contents, begin, end, mask, least, weights):
    told = []
    for i, craft in enumerate(contents.crafts):
        for k, site in enumerate(contents.sites):
            for first, last, verdict in passes(contents, craft, site, begin, end, mask):
                many = last - first + 1
                if verdict == "sure" and many >= least:
                    told.append((i, k, first, last, many * dict(enumerate(weights)).get(i, 1)))
    return told


class ContactsOfTest(unittest.TestCase):
    def test_nothing_there(self):
        self.assertEqual(contacts_of(sky([]), 0, 9, MASK, 1, []), [])
        self.assertEqual(contacts_of(sky([coming("a")], []), 0, 9, MASK, 1, []), [])

    def test_crafts_and_sites_in_order(self):
        # 30 above the site "s" and 20 above "t", for which 26 beside is the most.
        held = sky([coming("a"), coming("b", 2, 50)])
        wanted = [(0, 0, 4, 12, 9), (0, 1, 7, 12, 6), (1, 0, 4, 12, 9), (1, 1, 7, 12, 6)]
        self.assertEqual(contacts_of(held, 0, 12, MASK, 1, []), wanted)
        self.assertEqual(contacts_of(held, 5, 8, MASK, 1, []),
                         [(0, 0, 5, 8, 4), (0, 1, 7, 8, 2), (1, 0, 5, 8, 4), (1, 1, 7, 8, 2)])
        self.assertEqual(contacts_of(held, 0, 3, MASK, 1, []), [])

    def test_the_least_number_of_ticks(self):
        held = sky([coming("a")])
        self.assertEqual(contacts_of(held, 0, 12, MASK, 6, []), [(0, 0, 4, 12, 9), (0, 1, 7, 12, 6)])
        self.assertEqual(contacts_of(held, 0, 12, MASK, 7, []), [(0, 0, 4, 12, 9)])
        self.assertEqual(contacts_of(held, 0, 12, MASK, 9, []), [(0, 0, 4, 12, 9)])
        self.assertEqual(contacts_of(held, 0, 12, MASK, 10, []), [])
        self.assertEqual(contacts_of(held, 0, 12, MASK, 10 ** 30, []), [])

    def test_weights(self):
        held = sky([coming("a"), coming("b")], SITES[:1])
        cases = [([], (9, 9)), ([3], (27, 9)), ([3, 5], (27, 45)), ([0, 1000], (0, 9000)), ([1000, 0], (9000, 0))]
        for weights, told in cases:
            wanted = [(0, 0, 4, 12, told[0]), (1, 0, 4, 12, told[1])]
            self.assertEqual(contacts_of(held, 0, 12, MASK, 1, weights), wanted)

    def test_only_sure_spans_count(self):
        wide = glider("a", 0, (-30, -60, -9), (0, 5, 0), 2)
        told = contacts_of(sky([wide], SITES[:1]), 0, 10, MASK, 1, [])
        spans = [span for span in passes(sky([]), wide, SITES[0], 0, 10, MASK)]
        self.assertEqual([verdict for _, _, verdict in spans], ["never", "possible", "sure"])
        self.assertEqual(told, [(0, 0, spans[2][0], 10, 11 - spans[2][0])])

    def test_several_spans_of_one_pass(self):
        body = Body(1, 0, (0, 1, 1))
        held = Contents(body, 1, 0, [glider("a", 0, (-50, 0, 0))], [Site("s", (FAR, 0, 0))])
        self.assertEqual(contacts_of(held, 0, 9, MASK, 1, [7]), [(0, 0, 2, 2, 7), (0, 0, 6, 6, 7)])

    def test_as_the_passes_tell(self):
        rng = random.Random(18)
        found = 0
        for number in range(15):
            body = Body(10 ** 9, 0, rng.choice([(0, 1, 1), (3, 4, 5), (9999, 200, 10001)]))
            void = orbiter("c", 0, 1, [Sighting(8, cube(0, 9, 9, 0))])
            crafts = [orbiter("a", 3), orbiter("b", 4, 2), void]
            sites = [Site("s", (9000, 500, 100)), Site("t", (0, -9000, 10)), Site("u", (7000, 3000, 0))]
            held = Contents(body, rng.randint(1, 4), number % 3, crafts, sites)
            begin, many, least = rng.randint(0, 6), rng.randint(0, 14), rng.randint(1, 4)
            weights = [rng.randint(0, 9) for _ in range(rng.randint(0, 3))]
            kept = list(weights)
            mask = rng.choice([0, 10 ** 8])
            told = contacts_of(held, begin, begin + many, mask, least, weights)
            self.assertEqual(told, slow_contacts(held, begin, begin + many, mask, least, weights))
            self.assertEqual(weights, kept)
            found += len(told)
        self.assertGreater(found, 10)


class ErrorsTest(unittest.TestCase):
    def refused(self, name, *arguments, held=sky([coming("a")])):
        with self.assertRaises(BadArgument) as caught:
            contacts_of(held, *arguments)
        self.assertEqual(caught.exception.name, name)

    def test_the_errors_of_passes(self):
        for held in (sky([coming("a")]), sky([]), sky([coming("a")], [])):
            self.refused("begin", -1, 5, 0, 1, [], held=held)
            self.refused("begin", 100001, 100001, 0, 1, [], held=held)
            self.refused("end", 5, 4, 0, 1, [], held=held)
            self.refused("end", 5, 100001, 0, 1, [], held=held)
            self.refused("mask", 5, 5, -1, 1, [], held=held)
            self.refused("mask", 5, 5, MOST_MASK + 1, 1, [], held=held)
            self.refused("least", 5, 5, 0, 0, [], held=held)
            self.refused("least", 5, 5, 0, -7, [], held=held)

    def test_weights(self):
        self.refused("weights", 5, 5, 0, 1, [1, 1])
        self.refused("weights", 5, 5, 0, 1, [-1])
        self.refused("weights", 5, 5, 0, 1, [1001])
        self.refused("weights", 5, 5, 0, 1, [1], held=sky([]))
        self.refused("weights", 5, 5, 0, 1, [1, 1], held=sky([coming("a")], []))
        self.assertEqual(contacts_of(sky([coming("a")], []), 5, 5, 0, 1, [1000]), [])

    def test_the_order(self):
        self.refused("begin", -1, -2, -1, 0, [-1])
        self.refused("end", 0, -2, -1, 0, [-1])
        self.refused("mask", 0, 2, -1, 0, [-1])
        self.refused("least", 0, 2, 0, 0, [-1])


if __name__ == "__main__":
    unittest.main()
