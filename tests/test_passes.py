"""Points [55] to [57], and [50], [51] as to passes: elevations and the passes of crafts over sites."""

import itertools
import random
import unittest

from orrery.book.saving import read_saved, saved_text
from orrery.data import Body, Contents, Sighting, Site
from orrery.errors import BadArgument
from orrery.meeting.meetings import meeting
from orrery.space.boxes import box_subtract, inner_product, point_box, square_length
from orrery.stations.passes import MOST_MASK, elevation, passes
from orrery.stations.sites import site_at, site_over
from orrery.ways.courses import course

from test_meetings import falling
from worlds import FAR, FEEBLE, STILL, a_craft, as_runs, cube, glider, member, obeying_motion, orbiter

SITE = Site("s", (-FAR, 0, 0))
MASK = 6 * 10 ** 8


def sky(stride=1, fineness=0, body=FEEBLE, crafts=(), sites=()):
    return Contents(body, stride, fineness, crafts, sites)


def stands_high(x, s, mask):
    """Point [56], by the numbers."""
    d = [a - b for a, b in zip(x, s)]
    q = sum(a * b for a, b in zip(d, s))
    return q >= 0 and mask ** 2 * sum(a * a for a in d) * sum(b * b for b in s) <= 10 ** 18 * q * q


def slow_elevation(box, site_box, mask):
    d = box_subtract(box, site_box)
    low, high = inner_product(d, site_box)
    least, greatest = [a * b for a, b in zip(square_length(d), square_length(site_box))]
    if low >= 0 and mask ** 2 * greatest <= 10 ** 18 * low ** 2:
        return "sure"
    if high < 0 or 10 ** 18 * high ** 2 < mask ** 2 * least:
        return "never"
    return "possible"


def slow_passes(contents, craft, site, begin, end, mask):
    words = {}
    for piece in course(contents, craft, end).pieces:
        ticks = [at for at in range(piece.begin, piece.end + 1) if begin <= at <= end]
        if ticks:
            ground = site_over(contents.body, site, ticks[0], ticks[-1])
            told = sorted({slow_elevation(part, ground, mask) for part in piece.parts})
            for at in ticks:
                words[at] = told[0] if len(told) == 1 else "possible"
    return as_runs(words)


class ElevationTest(unittest.TestCase):
    def check(self, place, site, mask, wanted):
        """For points the elevation is never left open."""
        self.assertEqual(elevation(point_box(place), point_box(site), mask), wanted)
        self.assertEqual(stands_high(place, site, mask), wanted == "sure")

    def test_straight_above(self):
        for site in [(10, 0, 0), (0, -7, 0), (3, 4, 12), (-1, 0, 0)]:
            above = tuple(2 * c for c in site)
            self.check(above, site, MOST_MASK, "sure")
            self.check(above, site, 0, "sure")
            self.check((0, 0, 0), site, 0, "never")
            self.check(tuple(-c for c in site), site, 0, "never")

    def test_the_very_place_of_the_site(self):
        self.check((3, 4, 5), (3, 4, 5), MOST_MASK, "sure")

    def test_at_the_horizon(self):
        self.check((10, 5, 0), (10, 0, 0), 0, "sure")
        self.check((10, 5, 0), (10, 0, 0), 1, "never")
        self.check((9, 5, 0), (10, 0, 0), 0, "never")
        self.check((11, 10 ** 9, 0), (10, 0, 0), 1, "never")
        self.check((11, 10 ** 9 - 1, 0), (10, 0, 0), 1, "sure")

    def test_the_mask_at_its_very_value(self):
        self.check((13, 4, 0), (10, 0, 0), MASK, "sure")
        self.check((13, 4, 0), (10, 0, 0), MASK + 1, "never")
        self.check((13, 4, 0), (10, 0, 0), MASK - 1, "sure")
        self.check((10, -13, 4), (0, -10, 0), MASK, "never")
        self.check((0, -13, 4), (0, -10, 0), MASK, "sure")

    def test_the_greatest_mask(self):
        self.check((11, 0, 0), (10, 0, 0), MOST_MASK, "sure")
        self.check((10 ** 9, 1, 0), (10, 0, 0), MOST_MASK, "never")
        self.assertEqual(MOST_MASK, 10 ** 9)

    def test_the_bounds_of_sure(self):
        # The site is (1, 0, 0), so q goes from low to high along x.
        site = point_box((1, 0, 0))
        self.assertEqual(elevation(((1, 9), (0, 0), (0, 0)), site, 0), "sure")
        self.assertEqual(elevation(((0, 9), (0, 0), (0, 0)), site, 0), "possible")
        # q is from 3 to 3, the square of the distance at most 9 + 16.
        self.assertEqual(elevation(((4, 4), (0, 4), (0, 0)), site, MASK), "sure")
        self.assertEqual(elevation(((4, 4), (0, 4), (0, 0)), site, MASK + 1), "possible")
        self.assertEqual(elevation(((4, 4), (0, 5), (0, 0)), site, MASK), "possible")
        self.assertEqual(elevation(((3, 4), (0, 4), (0, 0)), site, MASK), "possible")

    def test_the_bounds_of_never(self):
        site = point_box((1, 0, 0))
        self.assertEqual(elevation(((-5, 0), (0, 0), (0, 0)), site, 0), "never")
        self.assertEqual(elevation(((-5, 1), (0, 0), (0, 0)), site, 0), "possible")
        # The high of q is 3, the square of the distance at least 9 + 16.
        self.assertEqual(elevation(((4, 4), (4, 9), (0, 0)), site, MASK), "possible")
        self.assertEqual(elevation(((4, 4), (4, 9), (0, 0)), site, MASK + 1), "never")
        self.assertEqual(elevation(((4, 4), (5, 9), (0, 0)), site, MASK), "never")

    def test_a_low_of_q_below_0_is_not_squared(self):
        # The low of q is -4: its square would be great enough.
        box = ((-3, 1), (0, 0), (0, 0))
        self.assertEqual(elevation(box, point_box((1, 0, 0)), 0), "possible")
        self.assertEqual(elevation(box, point_box((1, 0, 0)), 1), "possible")
        self.assertEqual(elevation(((-100, -50), (0, 3), (0, 0)), point_box((1, 0, 0)), 10), "never")

    def test_a_high_of_q_above_0_is_squared(self):
        # q goes from -99 to 1: only the square of its high counts.
        box = ((-98, 2), (50, 60), (0, 0))
        self.assertEqual(elevation(box, point_box((1, 0, 0)), MASK), "never")
        self.assertEqual(elevation(box, point_box((1, 0, 0)), 10 ** 7), "possible")

    def test_a_box_of_the_site(self):
        site_box = ((9, 11), (-1, 1), (0, 0))
        self.assertEqual(elevation(cube(30, 0, 0, 1), site_box, MASK), "sure")
        self.assertEqual(elevation(cube(12, 30, 0, 1), site_box, MASK), "never")
        self.assertEqual(elevation(cube(0, 0, 0, 1), site_box, 0), "never")
        self.assertEqual(elevation(cube(16, 8, 0, 1), site_box, MASK), "possible")

    def test_members(self):
        rng = random.Random(5)
        counts = {"sure": 0, "never": 0, "possible": 0}
        for _ in range(4000):
            box = tuple(tuple(sorted(rng.randint(-9, 9) for _ in range(2))) for _ in range(3))
            ground = tuple((c, c + rng.randint(0, 1)) for c in [rng.randint(-5, 5) for _ in range(3)])
            mask = rng.choice([0, 1, MASK, rng.randint(0, MOST_MASK), MOST_MASK])
            told = elevation(box, ground, mask)
            self.assertEqual(told, slow_elevation(box, ground, mask))
            counts[told] += 1
            corners = [itertools.product(*box), [member(rng, box) for _ in range(5)]]
            for x in itertools.chain(*corners):
                for s in itertools.product(*ground):
                    if told != "possible":
                        self.assertEqual(stands_high(x, s, mask), told == "sure", (box, ground, mask))
        self.assertGreater(min(counts.values()), 20)


class PassesTest(unittest.TestCase):
    def test_a_pass_by_the_numbers(self):
        # 30 above, and from 60 beside on by 5 at each tick: high enough up to 40 beside.
        craft = glider("a", 0, (-30, -60, 0), (0, 5, 0))
        wanted = [(0, 3, "never"), (4, 12, "sure")]
        self.assertEqual(passes(sky(), craft, SITE, 0, 12, MASK), wanted)
        self.assertEqual(passes(sky(), craft, SITE, 3, 4, MASK), [(3, 3, "never"), (4, 4, "sure")])
        self.assertEqual(passes(sky(), craft, SITE, 4, 4, MASK), [(4, 4, "sure")])
        wide = glider("a", 0, (-30, -60, -9), (0, 5, 0), 2)
        told = passes(sky(), wide, SITE, 0, 9, MASK)
        self.assertEqual([verdict for _, _, verdict in told], ["never", "possible", "sure"])
        self.assertEqual(told, slow_passes(sky(), wide, SITE, 0, 9, MASK))

    def test_pieces_of_several_ticks(self):
        craft = glider("a", 0, (-30, -60, 0), (0, 5, 0))
        # The piece from 4 to 7 is 40 to 25 beside, the one before it 60 to 45.
        self.assertEqual(passes(sky(4), craft, SITE, 0, 11, MASK), [(0, 3, "never"), (4, 11, "sure")])
        # The pieces are from 0 to 2, from 3 to 5, from 6 to 8.
        wanted = [(0, 2, "never"), (3, 5, "possible"), (6, 8, "sure")]
        self.assertEqual(passes(sky(3), craft, SITE, 0, 8, MASK), wanted)
        # A span within a piece has the verdict of the whole piece.
        self.assertEqual(passes(sky(3), craft, SITE, 4, 5, MASK), [(4, 5, "possible")])
        self.assertEqual(passes(sky(3), craft, SITE, 1, 7, MASK), [(1, 2, "never"), (3, 5, "possible"), (6, 7, "sure")])

    def test_starts(self):
        craft = glider("a", 5, (-30, -20, 0), (0, 1, 0))
        self.assertEqual(passes(sky(), craft, SITE, 0, 9, MASK), [(5, 9, "sure")])
        self.assertEqual(passes(sky(4), craft, SITE, 0, 9, MASK), [(5, 9, "sure")])
        self.assertEqual(passes(sky(4), craft, SITE, 5, 5, MASK), [(5, 5, "sure")])
        for end in (0, 4):
            self.assertEqual(passes(sky(4), craft, SITE, 0, end, MASK), [])
        self.assertEqual(passes(sky(), glider("a", 100000), SITE, 0, 99999, 0), [])

    def test_the_end_of_a_course(self):
        void = glider("a", 0, (-30, -20, 0), (0, 1, 0), 0, [Sighting(6, cube(5, 5, 5, 0))])
        self.assertEqual(passes(sky(2), void, SITE, 0, 90, MASK), [(0, 5, "sure")])
        self.assertEqual(passes(sky(4), void, SITE, 1, 90, MASK), [(1, 3, "sure")])
        self.assertEqual(passes(sky(7), void, SITE, 0, 3, MASK), [])
        self.assertEqual(passes(sky(2), void, SITE, 6, 90, MASK), [])
        told = passes(sky(), falling("l", 0), Site("t", (1, 0, 0)), 0, 90, 0)
        self.assertEqual(told, [(0, 0, "sure"), (1, 1, "never")])

    def test_parts_that_differ(self):
        # The lower half of the places is high enough for sure, the upper half is not, for sure.
        craft = a_craft("a", 0, ((-FAR - 20, -FAR + 19), (0, 0), (0, 0)), STILL)
        self.assertEqual(passes(sky(1, 0), craft, SITE, 0, 3, 0), [(0, 3, "possible")])
        self.assertEqual(passes(sky(1, 1), craft, SITE, 0, 3, 0), [(0, 3, "possible")])
        seen = Sighting(2, ((-FAR - 20, -FAR), (0, 0), (0, 0)))
        told = a_craft("a", 0, craft.place, craft.speed, 0, [], [seen])
        self.assertEqual(passes(sky(1, 0), told, SITE, 0, 3, 0), [(0, 1, "possible"), (2, 3, "sure")])
        # Halved once, the parts are from -20 to -1 and from 0 to 19.
        low = a_craft("a", 0, craft.place, craft.speed, 0, [], [Sighting(0, ((-FAR + 1, -FAR + 9), (0, 0), (0, 0)))])
        self.assertEqual(passes(sky(1, 1), low, SITE, 0, 3, 0), [(0, 3, "never")])

    def test_parts_that_agree_where_the_whole_does_not(self):
        # 40 above at least, and up to 30 beside.
        wide = ((-FAR - 80, -FAR - 40), (-30, 0), (0, 0))
        craft = a_craft("a", 0, wide, STILL)
        verdicts = []
        for fineness in range(5):
            told = passes(sky(1, fineness), craft, SITE, 0, 0, MASK)
            self.assertEqual(told, slow_passes(sky(1, fineness), craft, SITE, 0, 0, MASK))
            verdicts.append(told[0][2])
        self.assertEqual((verdicts[0], verdicts[-1]), ("possible", "sure"))

    def test_the_site_turns(self):
        # A quarter a tick: the site comes under the craft at ticks 2, 6, 10 ..
        body = Body(1, 0, (0, 1, 1))
        site = Site("s", (FAR, 0, 0))
        craft = glider("a", 0, (-50, 0, 0))
        wanted = [(0, 1, "never"), (2, 2, "sure"), (3, 5, "never"), (6, 6, "sure"), (7, 9, "never")]
        self.assertEqual(passes(sky(1, 0, body), craft, site, 0, 9, MASK), wanted)
        self.assertEqual(passes(sky(2, 0, body), craft, site, 2, 2, MASK), [(2, 2, "sure")])
        self.assertEqual(passes(sky(2, 0, body), craft, site, 2, 3, MASK), [(2, 3, "possible")])

    def test_against_the_words_of_the_point(self):
        rng = random.Random(6)
        words = set()
        for number in range(40):
            body = Body(1, 0, rng.choice([(1, 0, 1), (3, 4, 5), (0, -1, 1), (9999, 200, 10001)]))
            site = Site("s", rng.choice([(-FAR, 0, 0), (FAR, 0, 5), (-FAR + 5, -5, 9)]))
            place = (rng.randint(-90, 20), rng.randint(-200, -50), rng.randint(-90, -30))
            craft = glider("a", rng.randint(0, 5), place,
                           (rng.randint(-3, 3), rng.randint(0, 3), 1), rng.randint(0, 6))
            held = sky(rng.randint(1, 5), number % 4, body)
            begin, many, mask = rng.randint(0, 9), rng.randint(0, 20), rng.choice([0, MASK, rng.randint(0, MOST_MASK)])
            told = passes(held, craft, site, begin, begin + many, mask)
            self.assertEqual(told, slow_passes(held, craft, site, begin, begin + many, mask))
            words |= {verdict for _, _, verdict in told}
        self.assertEqual(words, {"sure", "never", "possible"})

    def test_what_is_told_of_motions(self):
        rng = random.Random(7)
        seen = {"sure": 0, "never": 0, "possible": 0}
        for number in range(30):
            body = Body(10 ** 9, 0, (0, 1, 1))
            craft = orbiter("a", 3)
            site = Site("s", (9000, 500 * (number % 3), 100))
            motion = obeying_motion(rng, body, craft, 40)
            mask = rng.choice([0, 3 * 10 ** 8, MASK])
            for first, last, verdict in passes(sky(1 + number % 4, number % 3, body), craft, site, 0, 18, mask):
                seen[verdict] += 1
                for at in range(first, last + 1):
                    ground = [low for low, _ in site_at(body, site, at)]
                    if verdict != "possible":
                        self.assertEqual(stands_high(motion[at - 3][0], ground, mask), verdict == "sure")
        self.assertGreater(min(seen.values()), 0)


class ErrorsTest(unittest.TestCase):
    def refused(self, name, begin, end, mask):
        with self.assertRaises(BadArgument) as caught:
            passes(sky(), glider(), SITE, begin, end, mask)
        self.assertEqual(caught.exception.name, name)

    def test_bounds(self):
        craft = glider("a", 99999, (-30, 0, 0))
        for begin, end, mask in [(0, 0, 0), (99999, 100000, MOST_MASK), (100000, 100000, 1)]:
            told = passes(sky(), craft, SITE, begin, end, mask)
            self.assertEqual([span[1] for span in told], [end] if end > 0 else [])

    def test_each_error(self):
        self.refused("begin", -1, 5, 0)
        self.refused("begin", 100001, 100001, 0)
        self.refused("end", 5, 4, 0)
        self.refused("end", 0, 100001, 0)
        self.refused("end", 0, -1, 0)
        self.refused("mask", 0, 5, -1)
        self.refused("mask", 0, 5, MOST_MASK + 1)

    def test_the_order(self):
        self.refused("begin", -1, -2, -1)
        self.refused("begin", -1, 5, -1)
        self.refused("end", 5, 4, -1)


class SavedTest(unittest.TestCase):
    def test_saved_contents_answer_as_before(self):
        rng = random.Random(8)
        body = Body(10 ** 9, 10 ** 16, (-3, 4, 5))
        motion = obeying_motion(rng, body, orbiter("a", 3), 30)
        seen = [Sighting(9, cube(*motion[6][0], 3)), Sighting(12, cube(*motion[9][0], 4))]
        crafts = [orbiter("a", 3, 1, seen), orbiter("b", 5, 2)]
        sites = [Site("s", (9000, 100, 50)), Site("t", (-8000, 0, 3))]
        held = Contents(body, 3, 2, crafts, sites)
        again = read_saved(saved_text(held))
        for number in (0, 1):
            pairs = [[(piece.begin, piece.end, piece.parts) for piece in course(c, c.crafts[number], 20).pieces]
                     for c in (held, again)]
            self.assertEqual(*pairs)
            self.assertGreater(len(pairs[0]), 3)
            for site in (0, 1):
                pair = [passes(c, c.crafts[number], c.sites[site], 0, 20, 10 ** 8) for c in (held, again)]
                self.assertEqual(*pair)
                self.assertTrue(pair[0])
        for distance in (0, 100, 1000):
            self.assertEqual(*[meeting(c, *c.crafts, 0, 20, distance) for c in (held, again)])


if __name__ == "__main__":
    unittest.main()
