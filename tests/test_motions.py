"""Points [16] to [19]: pushes, motions that obey, and the middle motion."""

import random
import unittest

from orrery.data import Burn, Sighting
from orrery.forces.motions import advance, first_breach, middle_motion, obeys, push_at

from worlds import STILL, a_body, a_craft, cube, obeying_motion, orbiter, seen_at

FIRST = ((1, 2), (3, 4), (5, 6))
SECOND = ((-9, -8), (0, 0), (7, 7))


class PushTest(unittest.TestCase):
    def test_begin_middle_and_end(self):
        craft = a_craft(burns=[Burn(4, 7, FIRST), Burn(9, 10, SECOND), Burn(10, 12, FIRST)])
        told = {at: push_at(craft, at) for at in range(0, 14)}
        for at in (4, 5, 6, 10, 11):
            self.assertEqual(told[at], FIRST, at)
        self.assertEqual(told[9], SECOND)
        for at in (0, 3, 7, 8, 12, 13):
            self.assertEqual(told[at], STILL, at)

    def test_no_burns(self):
        self.assertEqual(push_at(a_craft(), 0), ((0, 0), (0, 0), (0, 0)))


class AdvanceTest(unittest.TestCase):
    def test_pull_push_and_new_speed(self):
        told = advance(a_body(1000), (10, 0, 0), (1, 2, 3), (100, 200, 300))
        self.assertEqual(told, ((101, 202, 303), (91, 202, 303)))

    def test_without_speed_and_push(self):
        self.assertEqual(advance(a_body(1000), (0, 3, -4), (0, 0, 0), (0, 0, 0)), ((0, -21, 28), (0, -24, 32)))


class BreachTest(unittest.TestCase):
    """A motion along x: mu is so small that the pull at x > 0 is -1 along x."""

    def setUp(self):
        self.body = a_body(1)
        sightings = [Sighting(7, ((19, 30), (0, 0), (0, 0)))]
        self.craft = a_craft("a", 5, ((10, 12), (0, 0), (0, 0)), ((5, 6), (0, 0), (0, 0)), 1,
                             [Burn(6, 7, ((2, 3), (0, 0), (0, 0)))], sightings)
        self.motion = [((10, 0, 0), (5, 0, 0)), ((14, 0, 0), (4, 0, 0)), ((19, 0, 0), (5, 0, 0)),
                       ((23, 0, 0), (4, 0, 0))]

    def breach(self, number=None, pair=None):
        motion = list(self.motion)
        if number is not None:
            motion[number] = pair
        return first_breach(self.body, self.craft, motion)

    def test_a_motion_that_obeys(self):
        self.assertIsNone(self.breach())
        self.assertIs(obeys(self.body, self.craft, self.motion), True)
        self.assertIs(obeys(self.body, self.craft, self.motion[:1]), True)

    def test_place_ahead_of_speed(self):
        self.assertEqual(self.breach(0, ((9, 0, 0), (5, 0, 0))), (5, "place"))
        self.assertEqual(self.breach(0, ((9, 0, 0), (7, 0, 0))), (5, "place"))
        self.assertEqual(self.breach(0, ((10, 0, 0), (7, 0, 0))), (5, "speed"))
        self.assertIs(obeys(self.body, self.craft, [((10, 0, 0), (7, 0, 0))]), False)

    def test_push(self):
        # The pull is -1 and the drift 1: from 5 the next speed is 3, 4 or 5.
        self.assertEqual(self.breach(1, ((12, 0, 0), (2, 0, 0))), (6, "push"))
        self.assertEqual(self.breach(1, ((16, 0, 0), (6, 0, 0))), (6, "push"))
        self.assertEqual(self.breach(1, ((14, 2, 0), (4, 2, 0))), (6, "push"))
        self.assertEqual(first_breach(self.body, self.craft, [self.motion[0], ((13, 0, 0), (3, 0, 0))]), None)
        self.assertEqual(first_breach(self.body, self.craft, [self.motion[0], ((15, -1, 1), (5, -1, 1))]), None)

    def test_push_of_a_burn_and_drift_together(self):
        # At tick 6 the burn acts: from 4 the next speed is from 4 - 1 + 2 - 1 to 4 - 1 + 3 + 1.
        for speed, wanted in [(3, (7, "push")), (4, (7, "seen")), (5, None), (7, None), (8, (7, "push"))]:
            motion = self.motion[:2] + [((14 + speed, 0, 0), (speed, 0, 0))]
            self.assertEqual(first_breach(self.body, self.craft, motion), wanted, speed)

    def test_push_ahead_of_step_ahead_of_seen(self):
        self.assertEqual(self.breach(2, ((18, 0, 0), (9, 0, 0))), (7, "push"))
        self.assertEqual(self.breach(2, ((18, 0, 0), (5, 0, 0))), (7, "step"))
        self.assertEqual(self.breach(3, ((24, 0, 0), (4, 0, 0))), (8, "step"))

    def test_seen_ahead_of_what_comes_behind(self):
        late = self.motion[:2] + [((18, 0, 0), (4, 0, 0)), ((0, 0, 0), (99, 0, 0))]
        self.assertEqual(first_breach(self.body, self.craft, late), (7, "seen"))

    def test_seen_at_the_start(self):
        craft = a_craft("a", 5, cube(10, 0, 0, 3), STILL, 0, [], [Sighting(5, cube(10, 0, 0, 1))])
        self.assertEqual(first_breach(self.body, craft, [((12, 0, 0), (0, 0, 0))]), (5, "seen"))
        self.assertEqual(first_breach(self.body, craft, [((14, 0, 0), (0, 0, 0))]), (5, "place"))
        self.assertEqual(first_breach(self.body, craft, [((12, 0, 0), (1, 0, 0))]), (5, "speed"))
        self.assertIsNone(first_breach(self.body, craft, [((11, 0, 0), (0, 0, 0))]))

    def test_a_sighting_behind_the_end_plays_no_part(self):
        self.assertIsNone(first_breach(self.body, self.craft, self.motion[:2]))

    def test_centre(self):
        craft = a_craft("a", 5, cube(0, 0, 0, 2), STILL, 9, [], [Sighting(5, cube(0, 1, 0, 1))])
        at_rest = [((0, 0, 0), (0, 0, 0))]
        self.assertIsNone(first_breach(self.body, craft, at_rest))
        self.assertEqual(first_breach(self.body, craft, at_rest + [((50, 0, 0), (60, 0, 0))]), (5, "centre"))
        hidden = a_craft("a", 5, cube(0, 0, 0, 2), STILL, 9, [], [Sighting(5, cube(0, 9, 0, 1))])
        self.assertEqual(first_breach(self.body, hidden, at_rest + at_rest), (5, "seen"))

    def test_motions_made_by_the_rule_obey(self):
        rng = random.Random(6)
        for number in range(30):
            body = a_body(10 ** 9, rng.choice([0, 10 ** 17]))
            craft = orbiter(drift=rng.randint(0, 3))
            motion = obeying_motion(rng, body, craft, craft.start + 9)
            self.assertIsNone(first_breach(body, craft, motion))
            seen = orbiter(drift=craft.drift, sightings=[seen_at(motion, 3, 8, 0)])
            self.assertIs(obeys(body, seen, motion), True)
            place, speed = motion[5]
            motion[5] = ((place[0] + 1, place[1], place[2]), speed)
            self.assertEqual(first_breach(body, seen, motion), (8, "step"))

    def test_the_motion_is_not_changed(self):
        motion = list(self.motion)
        first_breach(self.body, self.craft, motion)
        self.assertEqual(motion, self.motion)


class MiddleMotionTest(unittest.TestCase):
    def test_up_to_the_start(self):
        craft = a_craft("a", 5, ((10, 13), (-3, 0), (0, 0)), ((5, 6), (-1, 0), (0, 0)), 7)
        self.assertEqual(middle_motion(a_body(1), craft, 5), [((11, -2, 0), (5, -1, 0))])

    def test_without_burns(self):
        craft = a_craft("a", 5, cube(10, 0, 0, 2), cube(5, 0, 0, 1), 7)
        wanted = [((10, 0, 0), (5, 0, 0)), ((14, 0, 0), (4, 0, 0)), ((17, 0, 0), (3, 0, 0))]
        self.assertEqual(middle_motion(a_body(1), craft, 7), wanted)

    def test_with_a_burn(self):
        craft = a_craft("a", 5, cube(10, 0, 0, 2), cube(5, 0, 0, 1), 7, [Burn(6, 7, ((-4, -1), (0, 3), (2, 2)))])
        # The middles of the push are -3, 1 and 2.
        wanted = [((10, 0, 0), (5, 0, 0)), ((14, 0, 0), (4, 0, 0)), ((14, 1, 2), (0, 1, 2)), ((13, 1, 3), (-1, 0, 1))]
        self.assertEqual(middle_motion(a_body(1), craft, 8), wanted)

    def test_into_the_centre(self):
        craft = a_craft("a", 5, cube(10, 0, 0, 0), cube(-4, 0, 0, 0))
        wanted = [((10, 0, 0), (-4, 0, 0)), ((5, 0, 0), (-5, 0, 0)), ((-1, 0, 0), (-6, 0, 0))]
        self.assertEqual(middle_motion(a_body(1), craft, 7), wanted)
        craft = a_craft("a", 5, cube(10, 0, 0, 0), cube(-9, 0, 0, 0))
        wanted = [((10, 0, 0), (-9, 0, 0)), ((0, 0, 0), (-10, 0, 0))]
        for until in (6, 7, 90):
            self.assertEqual(middle_motion(a_body(1), craft, until), wanted)
        self.assertEqual(middle_motion(a_body(1), a_craft("a", 5), 9), [((0, 0, 0), (0, 0, 0))])

    def test_sightings_play_no_part(self):
        seen = orbiter(sightings=[Sighting(5, cube(0, 0, 0, 1))])
        self.assertEqual(middle_motion(a_body(), seen, 12), middle_motion(a_body(), orbiter(), 12))
        self.assertEqual(first_breach(a_body(), seen, middle_motion(a_body(), seen, 12)), (5, "seen"))
        self.assertIsNone(first_breach(a_body(), orbiter(), middle_motion(a_body(), orbiter(), 12)))


if __name__ == "__main__":
    unittest.main()
