"""Points [84] to [89]: the direction of the sun, light and shadow, and the spans of light of crafts."""

import itertools
import random
import unittest

from orrery.data import Body, Contents, Sighting
from orrery.errors import BadArgument
from orrery.light.shadow import light, light_of, way_over
from orrery.space.boxes import point_box, square_length
from orrery.space.intervals import add, multiply, subtract
from orrery.ways.courses import course

from test_meetings import falling
from worlds import FAR, FEEBLE, STILL, a_craft, as_runs, by_tick, cube, glider, member, obeying_motion, orbiter

# The sun stands along x: behind the body, as seen from the gliders.
SUN = (((1, 1), (0, 0), (0, 0)), STILL)


def in_shadow(x, s, radius):
    """Point [85], by the numbers."""
    crossed = (x[1] * s[2] - x[2] * s[1], x[2] * s[0] - x[0] * s[2], x[0] * s[1] - x[1] * s[0])
    return (sum(a * b for a, b in zip(x, s)) < 0
            and sum(c * c for c in crossed) < radius ** 2 * sum(c * c for c in s))


def slow_light_of(box, way, radius):
    (x, y, z), (p, q, r) = box, way
    toward = add(add(multiply(x, p), multiply(y, q)), multiply(z, r))
    cross = (subtract(multiply(y, r), multiply(z, q)), subtract(multiply(z, p), multiply(x, r)),
             subtract(multiply(x, q), multiply(y, p)))
    aside, long = square_length(cross), square_length(way)
    if toward[1] < 0 and aside[1] < radius ** 2 * long[0]:
        return "dark"
    return "lit" if toward[0] >= 0 or aside[0] >= radius ** 2 * long[1] else "either"


def slow_spans(contents, craft, begin, end, radius, sun):
    words = {at: "either" for at in range(max(begin, craft.start), end + 1)}
    for piece in course(contents, craft, end).pieces:
        ticks = [at for at in range(piece.begin, piece.end + 1) if begin <= at <= end]
        if ticks:
            way = way_over(sun, ticks[0], ticks[-1])
            told = sorted({slow_light_of(part, way, radius) for part in piece.parts})
            for at in ticks:
                words[at] = told[0] if len(told) == 1 else "either"
    return as_runs(words)


def slow_counts(spans):
    words = by_tick(spans)
    longest = run = 0
    for at in sorted(words):
        run = 0 if words[at] == "lit" else run + 1
        longest = max(longest, run)
    told = list(words.values())
    return told.count("dark"), len(told) - told.count("lit"), longest


def sky(stride=1, fineness=0, body=FEEBLE):
    return Contents(body, stride, fineness)


class LightOfTest(unittest.TestCase):
    def check(self, place, way, radius, wanted):
        """For points it is never left open."""
        self.assertEqual(light_of(point_box(place), point_box(way), radius), wanted)
        self.assertEqual(in_shadow(place, way, radius), wanted == "dark")

    def test_points(self):
        self.check((-10, 0, 0), (1, 0, 0), 5, "dark")
        self.check((10, 0, 0), (1, 0, 0), 5, "lit")
        self.check((0, 0, 0), (1, 0, 0), 5, "lit")
        self.check((0, 3, 0), (1, 0, 0), 5, "lit")
        self.check((-1, 3, 0), (1, 0, 0), 5, "dark")
        for way in [(1, 0, 0), (7, 0, 0), (1000, 0, 0)]:
            self.check((-10, 4, 0), way, 5, "dark")
            self.check((-10, 0, -4), way, 5, "dark")
            self.check((-10, 5, 0), way, 5, "lit")
            self.check((-10, 3, 4), way, 5, "lit")
            self.check((-10, 3, 3), way, 5, "dark")
        self.check((-10, 0, 0), (0, 0, 0), 5, "lit")
        self.check((0, 0, 12), (0, 0, -5), 1, "dark")
        self.check((3, 4, -12), (0, 0, 5), 5, "lit")
        self.check((3, 4, -12), (0, 0, 5), 6, "dark")
        self.check((-6, -8, 1), (3, 4, 0), 1, "lit")
        self.check((-6, -8, 1), (3, 4, 0), 2, "dark")

    def test_the_bounds_of_dark(self):
        way = point_box((1, 0, 0))
        # The high of q: below 0, or 0.
        self.assertEqual(light_of(((-9, -1), (0, 0), (0, 0)), way, 5), "dark")
        self.assertEqual(light_of(((-9, 0), (0, 0), (0, 0)), way, 5), "either")
        # The high of c against 25 times the low of n.
        self.assertEqual(light_of(((-9, -9), (0, 4), (0, 0)), way, 5), "dark")
        self.assertEqual(light_of(((-9, -9), (0, 5), (0, 0)), way, 5), "either")
        self.assertEqual(light_of(((-9, -9), (0, 5), (0, 0)), way, 6), "dark")

    def test_the_bounds_of_lit(self):
        way = point_box((1, 0, 0))
        self.assertEqual(light_of(((0, 9), (0, 0), (0, 0)), way, 5), "lit")
        self.assertEqual(light_of(((-1, 9), (0, 0), (0, 0)), way, 5), "either")
        self.assertEqual(light_of(((-9, -9), (5, 9), (0, 0)), way, 5), "lit")
        self.assertEqual(light_of(((-9, -9), (4, 9), (0, 0)), way, 5), "either")
        self.assertEqual(light_of(((-9, -9), (5, 9), (0, 0)), way, 6), "either")

    def test_a_direction_that_is_not_known_well(self):
        # The square of its length is from 1 to 4.
        way = ((1, 2), (0, 0), (0, 0))
        self.assertEqual(light_of(((-9, -9), (0, 2), (0, 0)), way, 5), "dark")
        self.assertEqual(light_of(((-9, -9), (0, 3), (0, 0)), way, 5), "either")
        self.assertEqual(light_of(((-9, -9), (10, 10), (0, 0)), way, 5), "lit")
        self.assertEqual(light_of(((-9, -9), (9, 9), (0, 0)), way, 5), "either")
        # A direction that may be none: nothing is dark for sure.
        self.assertEqual(light_of(((-9, -9), (0, 0), (0, 0)), ((0, 2), (0, 0), (0, 0)), 5), "either")

    def test_members(self):
        rng = random.Random(33)
        counts = {"dark": 0, "lit": 0, "either": 0}
        for _ in range(3000):
            box, way = [tuple(tuple(sorted(rng.randint(-9, 9) for _ in range(2))) for _ in range(3)) for _ in range(2)]
            if rng.random() < 0.7:
                box = tuple((low, low + rng.randint(0, 1)) for low, _ in box)
                way = tuple((low, low + rng.randint(0, 1)) for low, _ in way)
            radius = rng.randint(1, 9)
            told = light_of(box, way, radius)
            self.assertEqual(told, slow_light_of(box, way, radius))
            counts[told] += 1
            if told != "either":
                xs = list(itertools.product(*box)) + [member(rng, box) for _ in range(4)]
                for x, s in itertools.product(xs, list(itertools.product(*way)) + [member(rng, way)]):
                    self.assertEqual(in_shadow(x, s, radius), told == "dark")
        self.assertGreater(min(counts.values()), 50)


class WayOverTest(unittest.TestCase):
    def test_one_tick(self):
        sun = (((5, 6), (-3, -3), (0, 9)), ((1, 2), (-2, -1), (-1, 1)))
        self.assertEqual(way_over(sun, 0, 0), sun[0])
        self.assertEqual(way_over(sun, 1, 1), ((6, 8), (-5, -4), (-1, 10)))
        self.assertEqual(way_over(sun, 10, 10), ((15, 26), (-23, -13), (-10, 19)))

    def test_several_ticks(self):
        sun = (((5, 6), (-3, -3), (0, 9)), ((1, 2), (-2, -1), (-1, 1)))
        self.assertEqual(way_over(sun, 0, 10), ((5, 26), (-23, -3), (-10, 19)))
        self.assertEqual(way_over(sun, 4, 10), ((9, 26), (-23, -7), (-10, 19)))
        self.assertEqual(way_over((STILL, ((-5, 3), (0, 0), (2, 2))), 4, 10), ((-50, 30), (0, 0), (8, 20)))

    def test_each_course_of_the_sun_is_inside(self):
        rng = random.Random(34)
        for _ in range(100):
            way, rate = [tuple(tuple(sorted(rng.randint(-9, 9) for _ in range(2))) for _ in range(3)) for _ in range(2)]
            s = member(rng, way)
            begin = rng.randint(0, 6)
            end = begin + rng.randint(0, 6)
            told = way_over((way, rate), begin, end)
            self.assertEqual(told, tuple(
                (w[0] + min(r[0] * begin, r[0] * end), w[1] + max(r[1] * begin, r[1] * end))
                for w, r in zip(way, rate)))
            for at in range(end + 1):
                if at >= begin:
                    self.assertTrue(all(low <= c <= high for c, (low, high) in zip(s, told)))
                s = tuple(a + b for a, b in zip(s, member(rng, rate)))


class LightTest(unittest.TestCase):
    def check(self, contents, craft, begin, end, radius, spans, sun=SUN):
        told = light(contents, craft, begin, end, radius, sun)
        self.assertEqual(told[0], spans)
        self.assertEqual(told[1:], slow_counts(spans))
        self.assertEqual(spans, slow_spans(contents, craft, begin, end, radius, sun))

    def test_by_the_numbers(self):
        # From 60 beside on by 5 at each tick; within 30 it is dark.
        craft = glider("a", 0, (0, -60, 0), (0, 5, 0))
        self.check(sky(), craft, 0, 12, 30, [(0, 6, "lit"), (7, 12, "dark")])
        self.check(sky(), craft, 3, 9, 30, [(3, 6, "lit"), (7, 9, "dark")])
        self.check(sky(), craft, 7, 7, 30, [(7, 7, "dark")])
        wide = glider("a", 0, (0, -60, -2), (0, 5, 0), 2)
        self.check(sky(), wide, 0, 11, 30, [(0, 5, "lit"), (6, 6, "either"), (7, 11, "dark")])
        self.assertEqual(light(sky(), wide, 0, 11, 30, SUN)[1:], (5, 6, 6))

    def test_pieces_of_several_ticks(self):
        craft = glider("a", 0, (0, -60, 0), (0, 5, 0))
        self.check(sky(4), craft, 0, 11, 30, [(0, 3, "lit"), (4, 7, "either"), (8, 11, "dark")])
        # A span within a piece: its parts are those of the whole piece.
        self.check(sky(4), craft, 7, 7, 30, [(7, 7, "either")])
        self.check(sky(4), craft, 2, 9, 30, [(2, 3, "lit"), (4, 7, "either"), (8, 9, "dark")])

    def test_ahead_of_the_start(self):
        craft = glider("a", 5, (0, -20, 0))
        self.check(sky(), craft, 0, 9, 30, [(5, 9, "dark")])
        self.check(sky(3), craft, 0, 5, 30, [(5, 5, "dark")])
        self.check(sky(), craft, 0, 4, 30, [])
        self.assertEqual(light(sky(), craft, 0, 4, 30, SUN), ([], 0, 0, 0))

    def test_behind_the_last_piece(self):
        void = glider("a", 2, (0, -20, 0), (0, 0, 0), 0, [Sighting(8, STILL)])
        self.check(sky(), void, 0, 12, 30, [(2, 7, "dark"), (8, 12, "either")])
        self.check(sky(4), void, 0, 12, 30, [(2, 5, "dark"), (6, 12, "either")])
        self.check(sky(4), void, 3, 4, 30, [(3, 4, "dark")])
        # No piece has a tick of the span: all is open from the greater one of both begins on.
        self.check(sky(4), void, 7, 12, 30, [(7, 12, "either")])
        self.check(sky(7), void, 0, 12, 30, [(2, 12, "either")])
        self.check(sky(7), void, 0, 1, 30, [])
        lost = falling("l", 3)
        self.check(sky(), lost, 0, 9, 10, [(3, 4, "lit"), (5, 9, "either")])

    def test_open_ticks_that_follow_open_ones(self):
        wide = glider("a", 0, (0, -30, -9), (0, 0, 0), 5, [Sighting(6, STILL)])
        self.check(sky(), wide, 0, 9, 30, [(0, 9, "either")])

    def test_parts_that_differ(self):
        # The first half of the places is far enough aside, the second half is not.
        craft = a_craft("a", 0, ((-FAR, -FAR), (-40, -21), (0, 0)), STILL)
        self.check(sky(), craft, 0, 3, 31, [(0, 3, "either")])
        self.check(sky(1, 1), craft, 0, 3, 31, [(0, 3, "either")])
        seen = a_craft("a", 0, craft.place, STILL, 0, (), [Sighting(2, ((-FAR, -FAR), (-40, -31), (0, 0)))])
        self.check(sky(1, 1), seen, 0, 3, 31, [(0, 1, "either"), (2, 3, "lit")])
        # As wide as they are, the parts agree where the whole would not.
        wide = a_craft("a", 0, ((-FAR, -FAR), (-28, 0), (-28, 0)), STILL)
        self.check(sky(1, 0), wide, 0, 0, 39, [(0, 0, "either")])
        self.check(sky(1, 0), wide, 0, 0, 40, [(0, 0, "dark")])

    def test_the_direction_is_that_of_the_common_ticks(self):
        # It turns to the other side at tick 5.
        sun = (((5, 5), (0, 0), (0, 0)), ((-1, -1), (0, 0), (0, 0)))
        craft = glider("a", 0, (0, -1, 0))
        self.check(sky(), craft, 0, 9, 30, [(0, 4, "dark"), (5, 9, "lit")], sun)
        self.check(sky(5), craft, 0, 9, 30, [(0, 4, "dark"), (5, 9, "lit")], sun)
        self.check(sky(4), craft, 0, 9, 30, [(0, 3, "dark"), (4, 7, "either"), (8, 9, "lit")], sun)
        self.check(sky(4), craft, 0, 4, 30, [(0, 4, "dark")], sun)
        self.check(sky(4), craft, 5, 9, 30, [(5, 9, "lit")], sun)

    def test_the_three_numbers(self):
        # The sun goes around: dark, lit and open spans follow one another.
        body = Body(10 ** 9, 0, (1, 0, 1))
        craft = orbiter("a", 3)
        for sun in [(cube(-100, 0, 0, 5), cube(5, 9, 0, 1)), (cube(-100, 20, 0, 9), cube(0, -9, 0, 0))]:
            for stride, fineness in [(1, 0), (2, 2), (5, 1)]:
                held = Contents(body, stride, fineness)
                self.check(held, craft, 0, 25, 9000, slow_spans(held, craft, 0, 25, 9000, sun), sun)

    def test_the_longest_darkness_across_spans(self):
        words = set()
        rng = random.Random(35)
        for number in range(60):
            craft = glider("a", rng.randint(0, 5), (rng.randint(-9, 0), -rng.randint(40, 60), -9),
                           (0, rng.randint(1, 3), 0), rng.randint(0, 3), [Sighting(rng.randint(14, 30), STILL)])
            sun = (cube(9, 0, 0, 0), (rng.choice([(0, 0), (-1, -1), (-1, 0)]), (0, 0), (0, 0)))
            held = sky(rng.randint(1, 4), number % 3)
            begin, radius = rng.randint(0, 9), rng.randint(20, 50)
            spans = slow_spans(held, craft, begin, begin + 14, radius, sun)
            words |= {tuple(word for _, _, word in spans)}
            self.check(held, craft, begin, begin + 14, radius, spans, sun)
        self.assertTrue([told for told in words if "dark" in told and "lit" in told and "either" in told])
        self.assertTrue([told for told in words if ("dark", "either") in list(zip(told, told[1:]))])

    def test_what_is_told_of_motions(self):
        rng = random.Random(36)
        body = Body(10 ** 9, 0, (1, 0, 1))
        seen = {"dark": 0, "lit": 0, "either": 0}
        for number in range(40):
            craft = orbiter("a", 3)
            motion = obeying_motion(rng, body, craft, 40)
            radius = rng.choice([100, 400, 700])
            sun = (cube(-1000, rng.choice([-60, -40, 0]), 30, 3), cube(0, rng.choice([-40, -20, 0]), 0, 1))
            s = member(rng, sun[0])
            suns = [s]
            for _ in range(25):
                suns.append(tuple(a + b for a, b in zip(suns[-1], member(rng, sun[1]))))
            held = Contents(body, 1 + number % 3, number % 3)
            spans, least, greatest, longest = light(held, craft, 0, 18, radius, sun)
            dark = {at: in_shadow(motion[at - 3][0], suns[at], radius) for at in range(3, 19)}
            for first, last, word in spans:
                seen[word] += 1
                for at in range(first, last + 1):
                    if word != "either":
                        self.assertEqual(dark[at], word == "dark")
            run = most = 0
            for at in range(3, 19):
                run = run + 1 if dark[at] else 0
                most = max(most, run)
            self.assertTrue(least <= sum(dark.values()) <= greatest)
            self.assertLessEqual(most, longest)
        self.assertGreater(min(seen.values()), 0)

    def test_the_list_is_new(self):
        craft = glider("a", 0, (0, -20, 0))
        light(sky(), craft, 0, 5, 30, SUN)[0].append(1)
        self.check(sky(), craft, 0, 5, 30, [(0, 5, "dark")])


class ErrorsTest(unittest.TestCase):
    def refused(self, name, *arguments):
        with self.assertRaises(BadArgument) as caught:
            light(sky(), glider(), *arguments)
        self.assertEqual(caught.exception.name, name)

    def test_bounds(self):
        self.refused("begin", -1, 5, 1, SUN)
        self.refused("begin", 100001, 100001, 1, SUN)
        self.refused("end", 5, 4, 1, SUN)
        self.refused("end", 5, 100001, 1, SUN)
        self.refused("radius", 0, 5, 0, SUN)
        self.refused("radius", 0, 5, 10 ** 15 + 1, SUN)
        most = 10 ** 12
        for bad in [(-most - 1, 0), (0, most + 1), (1, 0), (most + 1, most + 1)]:
            for k in range(6):
                intervals = [(0, 0)] * 6
                intervals[k] = bad
                self.refused("sun", 0, 5, 1, (tuple(intervals[:3]), tuple(intervals[3:])))

    def test_at_the_bounds(self):
        most = 10 ** 12
        craft = glider("a", 100000)
        for sun in [(((-most, most),) * 3, ((-most, most),) * 3), (((most, most),) * 3, ((-most, -most),) * 3)]:
            for radius in (1, 10 ** 15):
                told = light(sky(), craft, 100000, 100000, radius, sun)
                self.assertEqual([span[:2] for span in told[0]], [(100000, 100000)])

    def test_the_order(self):
        bad = (((1, 0),) * 3, STILL)
        self.refused("begin", -1, -2, 0, bad)
        self.refused("end", 0, -2, 0, bad)
        self.refused("radius", 0, 2, 0, bad)


if __name__ == "__main__":
    unittest.main()
