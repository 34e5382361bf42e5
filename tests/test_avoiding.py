"""Points [66] and [67]: burns with which a craft keeps away from the others."""

import random
import unittest

from orrery.book.edits import apply_edit
from orrery.data import Burn, Contents, Sighting, Site, contents_data
from orrery.errors import BadArgument, NoSuchCraft, OrreryError
from orrery.meeting.meetings import meeting
from orrery.plans.avoiding import avoid
from orrery.stations.passes import MOST_MASK, passes

from test_meetings import falling
from worlds import FAR, FEEBLE, STILL, as_runs, by_tick, cube, glider

SITE = Site("s", (-FAR, 0, 0))
MASK = 6 * 10 ** 8


def sky(*crafts, sites=(SITE,), stride=1):
    return Contents(FEEBLE, stride, 0, crafts, sites)


def aside(begin, end=None, push=-40):
    """A burn that pushes along y, and so does not bring the feeble pull in."""
    return Burn(begin, begin + 1 if end is None else end, ((0, 0), (push, push), (0, 0)))


def head_on(y=0):
    """The craft a stays where it is; b comes to it with 10 a tick, and is there at tick 10."""
    return [glider("a", 0, (-200, -500 + y, 0)), glider("b", 0, (-100, -500, 0), (-10, 0, 0))]


class AvoidTest(unittest.TestCase):
    def check(self, contents, keeps, burns, wanted, span=(0, 20), distance=30, name="a"):
        before, kept, tried = contents_data(contents), list(keeps), list(burns)
        told = avoid(contents, name, *span, distance, keeps, burns)
        self.assertEqual(told, wanted)
        self.assertEqual((contents_data(contents), keeps, burns), (before, kept, tried))

    def test_the_first_one(self):
        self.check(sky(*head_on()), [], [aside(0), aside(1)], (0, []))

    def test_a_later_one(self):
        # Without it b is within 30 from tick 7 on; the push gives 40 a tick, from the tick behind it on.
        burns = [aside(7), aside(9), aside(6), aside(0)]
        wanted = [("near", "b", 7), ("near", "b", 7)]
        self.check(sky(*head_on()), [], burns, (2, wanted))

    def test_none(self):
        burns = [aside(8), aside(12)]
        self.check(sky(*head_on()), [], burns, (None, [("near", "b", 7)] * 2))

    def test_alone(self):
        self.check(sky(head_on()[0]), [], [aside(8)], (0, []))
        self.check(sky(*head_on()[::-1]), [], [aside(8)], (None, [("near", "a", 7)]), name="b")

    def test_each_burn_is_tried_alone(self):
        # Both together would be enough; each one alone is not.
        burns = [aside(3, 4, -4), aside(4, 5, -4)]
        held = sky(*head_on())
        self.check(held, [], burns, (None, [("near", "b", 8), ("near", "b", 8)]), span=(0, 9))
        both = apply_edit(held, ("add burn", "a", burns[0]))
        self.check(both, [], burns[1:], (0, []), span=(0, 9))

    def test_before_the_start(self):
        late = glider("a", 5, (-200, -500, 0))
        held = sky(late, head_on()[1])
        self.check(held, [], [aside(4), aside(5)], (1, [("refused", "before the start", None)]))

    def test_overlap(self):
        held = sky(glider("a", 0, (-200, -500, 0), burns=[aside(3, 6, -1)]), head_on()[1])
        burns = [aside(5, 7), aside(2, 4), aside(1, 9), aside(4, 5)]
        self.check(held, [], burns, (None, [("refused", "overlap", None)] * 4))
        # One with the same begin is replaced.
        self.check(held, [], [aside(3, 4)], (0, []))
        # One that touches is none.
        self.check(held, [], [aside(2, 3)], (0, []))

    def test_too_many(self):
        full = glider("a", 0, (-200, -500, 0), burns=[aside(2 * k, 2 * k + 1, -1) for k in range(20)])
        held = sky(full)
        burns = [aside(50, 51), aside(1, 2), aside(2, 3)]
        self.check(held, [], burns, (2, [("refused", "too many", None)] * 2))
        # Of several causes the first one that an edit names counts.
        self.check(held, [], [aside(1, 3)], (None, [("refused", "overlap", None)]))
        late = sky(glider("a", 5, (0, 0, 0), burns=[aside(7 + 2 * k) for k in range(20)]))
        self.check(late, [], [aside(4, 8)], (None, [("refused", "before the start", None)]))

    def test_the_first_other_craft_in_order(self):
        # c is near first, but b stands ahead of it.
        crafts = head_on() + [glider("c", 0, (-190, -500, 0)), glider("d", 0, (-200, -501, 0))]
        burn = Burn(0, 1, STILL)
        self.check(sky(*crafts), [], [burn], (None, [("near", "b", 7)]))
        self.check(sky(crafts[0], *crafts[2:]), [], [burn], (None, [("near", "c", 0)]))
        self.check(sky(crafts[1], crafts[2]), [], [burn], (None, [("near", "b", 6)]), name="c")
        self.check(sky(*crafts), [], [burn], (None, [("near", "b", 7)]), span=(5, 9))
        self.check(sky(*crafts), [], [burn], (None, [("near", "b", 8)]), span=(8, 9))
        self.check(sky(*crafts[:2]), [], [burn], (0, []), span=(0, 6))
        self.check(sky(*crafts[:2]), [], [burn], (0, []), span=(14, 20))

    def test_the_distance(self):
        burn = Burn(0, 1, STILL)
        for distance, at in [(0, 10), (9, 10), (10, 9), (30, 7), (99, 1), (100, 0)]:
            self.check(sky(*head_on()), [], [burn], (None, [("near", "b", at)]), distance=distance)
        self.check(sky(*head_on(-1)), [], [burn], (0, []), distance=0)

    def test_spans_that_are_possible_void_or_unknown(self):
        burn = Burn(0, 1, STILL)
        wide = glider("b", 0, (-300, -500, 0), (0, 0, 0), 50)
        self.check(sky(head_on()[0], wide), [], [burn], (None, [("near", "b", 0)]), distance=60)
        self.check(sky(head_on()[0], wide), [], [burn], (0, []), distance=49)
        void = glider("b", 0, (-900, -500, 0), (0, 0, 0), 0, [Sighting(4, STILL)])
        self.check(sky(head_on()[0], void), [], [burn], (None, [("near", "b", 4)]))
        self.check(sky(head_on()[0], void), [], [burn], (0, []), span=(0, 3))
        self.check(sky(head_on()[0], falling("b", 3)), [], [burn], (None, [("near", "b", 5)]))
        # A burn against which a sighting speaks: nothing is left of the craft itself.
        seen = glider("a", 0, (-200, -500, 0), sightings=[Sighting(6, cube(-FAR - 200, -500, 0, 3))])
        other = glider("b", 0, (-900, -500, 0))
        self.check(sky(seen, other), [], [aside(0), burn], (1, [("near", "b", 6)]))

    def test_no_common_tick(self):
        burn = Burn(90, 91, STILL)
        self.check(sky(head_on()[0], glider("b", 21, (-200, -500, 0))), [], [burn], (0, []))

    def test_contacts_to_keep(self):
        # At (-200, -90) it is high enough over the site, at 0.9; with 40 a tick it soon is not.
        craft = glider("a", 0, (-200, -90, 0))
        burn, strong = Burn(0, 1, STILL), aside(3, 4)
        held = sky(craft)
        self.check(held, [("s", 0, 20, MASK)], [burn], (0, []))
        told = passes(apply_edit(held, ("add burn", "a", strong)), apply_edit(
            held, ("add burn", "a", strong)).crafts[0], SITE, 0, 20, MASK)
        self.assertEqual(told, [(0, 7, "sure"), (8, 20, "never")])
        for keep, kept in [
            (("s", 0, 7, MASK), True), (("s", 5, 7, MASK), True), (("s", 7, 7, MASK), True), (("s", 0, 8, MASK), False),
            (("s", 8, 8, MASK), False), (("s", 7, 8, MASK), False), (("s", 0, 20, 0), True), (("t", 0, 1, 0), False),
        ]:
            self.check(held, [keep], [strong], (0, []) if kept else (None, [("lost", 0, None)]))
        keeps = [("s", 0, 5, MASK), ("s", 0, 9, MASK), ("t", 0, 1, 0)]
        self.check(held, keeps, [strong, burn], (None, [("lost", 1, None), ("lost", 2, None)]))
        self.check(held, keeps[:2], [strong, burn], (1, [("lost", 1, None)]))

    def test_a_contact_from_before_the_begin_of_the_craft(self):
        craft = glider("a", 5, (-200, -90, 0))
        burn = Burn(5, 6, STILL)
        self.check(sky(craft), [("s", 5, 9, MASK)], [burn], (0, []))
        self.check(sky(craft), [("s", 4, 9, MASK)], [burn], (None, [("lost", 0, None)]))
        self.check(sky(craft), [("s", 0, 4, MASK)], [burn], (None, [("lost", 0, None)]))

    def test_a_contact_seen_in_two_spans(self):
        # High enough, then not, and then again.
        craft = glider("a", 0, (-50, -20, 0), burns=[aside(2, 3, -100), aside(3, 4, 200), aside(4, 5, -100)])
        held = sky(craft)
        told = passes(held, held.crafts[0], SITE, 0, 9, MASK)
        self.assertEqual(told, [(0, 2, "sure"), (3, 3, "never"), (4, 9, "sure")])
        burn = Burn(20, 21, STILL)
        for begin, end, kept in [(0, 9, False), (0, 2, True), (4, 9, True), (2, 4, False)]:
            self.check(held, [("s", begin, end, MASK)], [burn], (0, []) if kept else (None, [("lost", 0, None)]))

    def test_contacts_to_keep_have_spans_of_their_own(self):
        craft = glider("a", 0, (-200, -90, 0))
        self.check(sky(craft), [("s", 5, 30, MASK)], [Burn(0, 1, STILL)], (0, []), span=(0, 0))
        self.check(sky(craft), [("s", 5, 30, MASK)], [aside(20)], (None, [("lost", 0, None)]), span=(0, 0))

    def test_the_first_hindrance_counts(self):
        held = sky(*head_on())
        self.check(held, [("t", 0, 1, 0)], [aside(8), aside(0)], (None, [("near", "b", 7), ("lost", 0, None)]))
        late = sky(glider("a", 5, (-200, -500, 0)), head_on()[1])
        self.check(late, [("t", 0, 1, 0)], [aside(0)], (None, [("refused", "before the start", None)]))

    def test_in_the_words_of_the_point(self):
        rng = random.Random(19)
        words = set()
        for _ in range(25):
            crafts = [glider(name, rng.randint(0, 3), [rng.randint(-300, -200) for _ in range(3)],
                             [rng.randint(-9, 2) for _ in range(3)], rng.randint(0, 9)) for name in "abc"]
            held = sky(*crafts, stride=rng.randint(1, 3))
            burns = [Burn(at, at + rng.randint(1, 3), tuple((p, p) for p in [rng.randint(-40, 0) for _ in range(3)]))
                     for at in [rng.randint(0, 9) for _ in range(4)]]
            keeps = [("s", 2, rng.randint(2, 12), rng.choice([0, 10 ** 8])) for _ in range(rng.randint(0, 1))]
            distance = rng.randint(0, 90)
            wanted, number = [], None
            for k, burn in enumerate(burns):
                if burn.begin < crafts[1].start:
                    wanted.append(("refused", "before the start", None))
                    continue
                changed = apply_edit(held, ("add burn", "b", burn))
                near = [("near", other.name, at) for other in (crafts[0], crafts[2])
                        for at, word in sorted(by_tick([span[:3] for span in meeting(
                            changed, changed.crafts[1], other, 2, 14, distance)]).items()) if word != "impossible"]
                lost = [("lost", i, None) for i, (_, begin, end, mask) in enumerate(keeps) if as_runs(by_tick(passes(
                    changed, changed.crafts[1], SITE, begin, end, mask))) != [(begin, end, "sure")]]
                if not near + lost:
                    number = k
                    break
                wanted.append((near + lost)[0])
            words |= {row[0] for row in wanted}
            self.assertEqual(avoid(held, "b", 2, 14, distance, keeps, burns), (number, wanted))
        self.assertEqual(words, {"refused", "near", "lost"})


class ErrorsTest(unittest.TestCase):
    GOOD = {"name": "a", "begin": 0, "end": 5, "distance": 0, "keeps": [], "burns": [aside(0)]}

    def refused(self, word, **changed):
        with self.assertRaises(OrreryError) as caught:
            avoid(sky(*head_on()), **{**self.GOOD, **changed})
        self.assertEqual(caught.exception.name, word)
        return caught.exception

    def test_no_such_craft(self):
        self.assertIsInstance(self.refused("c", name="c"), NoSuchCraft)
        self.assertIsInstance(self.refused("s", name="s", begin=-1, burns=[]), NoSuchCraft)

    def test_bounds(self):
        self.refused("begin", begin=-1)
        self.refused("begin", begin=100001, end=100001)
        self.refused("end", begin=6)
        self.refused("end", end=100001)
        self.refused("distance", distance=-1)
        self.refused("keeps", keeps=[("s", 0, 1, 0)] * 11)
        self.refused("burns", burns=[])
        self.refused("burns", burns=[aside(0)] * 21)
        for keep, name in [(("s", -1, 1, 0), "begin"), (("s", 2, 1, 0), "end"), (("s", 0, 100001, 0), "end"),
                           (("s", 0, 1, -1), "mask"), (("s", 0, 1, MOST_MASK + 1), "mask"), (("t", 0, 1, -1), "mask")]:
            self.assertIsInstance(self.refused(name, keeps=[("s", 0, 1, 0), keep]), BadArgument)

    def test_at_the_bounds(self):
        held = sky(glider("a", 0, (-200, -90, 0)))
        self.assertEqual(avoid(held, "a", 0, 0, 0, [("s", 0, 0, 0)] * 10, [Burn(1, 2, STILL)] * 20), (0, []))
        told = avoid(held, "a", 0, 0, 0, [("s", 0, 0, MOST_MASK)], [Burn(1, 2, STILL)] * 20)
        self.assertEqual(told, (None, [("lost", 0, None)] * 20))

    def test_the_order(self):
        bad = {"begin": -1, "end": -2, "distance": -1, "keeps": [("s", -1, -2, -1)] * 11, "burns": []}
        self.refused("begin", **bad)
        bad["begin"] = 0
        self.refused("end", **bad)
        bad["end"] = 5
        self.refused("distance", **bad)
        bad["distance"] = 0
        self.refused("keeps", **bad)
        bad["keeps"] = [("s", 0, 1, -1), ("s", -1, -2, -1)]
        self.refused("mask", **bad)
        bad["keeps"] = [("s", -1, -2, -1), ("s", 0, 1, -1)]
        self.refused("begin", **bad)
        bad["keeps"] = [("s", 0, -2, -1)]
        self.refused("end", **bad)
        bad["keeps"] = [("s", 0, 1, 0)]
        self.refused("burns", **bad)


if __name__ == "__main__":
    unittest.main()
