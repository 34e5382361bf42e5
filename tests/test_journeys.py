"""Points [24] to [26]: journeys."""

import random
import unittest

from orrery.data import Burn, Sighting
from orrery.forces.motions import middle_motion
from orrery.forces.pull import pull_over
from orrery.space.boxes import box_size, point_box
from orrery.ways.journeys import Journey, Moment, journey, sighting_at
from orrery.ways.parts import State, parts_of, state_has
from orrery.ways.steps import LIMIT, cut, step

from worlds import STILL, a_body, a_craft, cube, obeying_motion, orbiter, rows, seen_at, slow_push


def along_x(low, high):
    return ((low, high), (0, 0), (0, 0))


def told(journey_told):
    return [(moment.at, rows(moment.states)) for moment in journey_told]


def xs(moment):
    return [state.place[0] for state in moment.states]


class MomentTest(unittest.TestCase):
    def test_place_and_speed(self):
        moment = Moment(7, [State(cube(0, 0, 0, 1), cube(5, 5, 5, 0)), State(cube(9, -9, 0, 2), cube(0, 6, 5, 0))])
        self.assertEqual(moment.at, 7)
        self.assertEqual(moment.place(), ((-1, 11), (-11, 1), (-2, 2)))
        self.assertEqual(moment.speed(), ((0, 5), (5, 6), (5, 5)))

    def test_the_list_handed_in_is_copied(self):
        states = [State(STILL, STILL)]
        moment = Moment(0, states)
        states.append(State(cube(9, 9, 9, 9), STILL))
        self.assertEqual(rows(moment.states), [(STILL, STILL)])
        states.clear()
        self.assertEqual(moment.place(), STILL)


class JourneyClassTest(unittest.TestCase):
    def setUp(self):
        self.moments = [Moment(at, [State(cube(at, at, at, 0), STILL)]) for at in (4, 5, 6)]

    def test_fields_iterating_and_moments(self):
        made = Journey(self.moments, "void", 7)
        self.assertEqual((made.ending, made.broken), ("void", 7))
        self.assertEqual([moment.at for moment in made], [4, 5, 6])
        self.assertEqual([moment.at for moment in made.moments], [4, 5, 6])
        for at in (4, 5, 6):
            self.assertEqual(made.moment(at).at, at)
        for at in (-1, 0, 3, 7, 100):
            self.assertIsNone(made.moment(at))
        self.assertEqual(list(Journey([], "whole", None)), [])
        self.assertIsNone(Journey([], "whole", None).moment(0))

    def test_the_list_handed_in_is_copied(self):
        made = Journey(self.moments, "whole", None)
        self.moments.pop()
        self.assertEqual([moment.at for moment in made], [4, 5, 6])
        self.assertEqual([moment.at for moment in made.moments], [4, 5, 6])
        self.assertEqual(made.moment(6).at, 6)


class SightingAtTest(unittest.TestCase):
    def test_sighting_at(self):
        craft = a_craft("a", 2, sightings=[Sighting(2, cube(1, 1, 1, 1)), Sighting(9, cube(2, 2, 2, 1))])
        self.assertEqual(sighting_at(craft, 2), cube(1, 1, 1, 1))
        self.assertEqual(sighting_at(craft, 9), cube(2, 2, 2, 1))
        self.assertIsNone(sighting_at(craft, 3))
        self.assertIsNone(sighting_at(a_craft(), 0))


class ExtentTest(unittest.TestCase):
    def test_before_the_start(self):
        for until in (-1000, -1, 0, 2):
            made = journey(a_body(), 1, orbiter(), until)
            self.assertEqual((list(made), made.ending, made.broken), ([], "whole", None))

    def test_at_the_start_and_behind(self):
        for until in (3, 4, 20):
            made = journey(a_body(), 1, orbiter(), until)
            self.assertEqual([moment.at for moment in made], list(range(3, until + 1)))
            self.assertEqual((made.ending, made.broken), ("whole", None))
        first = journey(a_body(), 2, orbiter(), 3).moment(3)
        craft = orbiter()
        self.assertEqual(rows(first.states), rows(parts_of(State(craft.place, craft.speed), 2)))


class StepsTest(unittest.TestCase):
    def test_steps_in_order_with_the_push_of_the_tick_before(self):
        body, craft = a_body(10 ** 9, 10 ** 15), orbiter()
        made = journey(body, 3, craft, 12)
        states = parts_of(State(craft.place, craft.speed), 3)
        self.assertEqual(len(states), 8)
        for at in range(3, 13):
            self.assertEqual(rows(made.moment(at).states), rows(states))
            states = [step(body, state, slow_push(craft, at), craft.drift) for state in states]

    def test_the_states_are_cut_at_each_sighting(self):
        body = a_body(1)
        sightings = [Sighting(2, along_x(5, 8)), Sighting(4, along_x(0, 6))]
        craft = a_craft("a", 2, along_x(0, 15), STILL, 0, [], sightings)
        # The pull is -1 along x, so the speed is -1, then -2.
        self.assertIsNone(step(body, State(along_x(0, 3), STILL), STILL, 0))
        made = journey(body, 2, craft, 4)
        self.assertEqual([xs(moment) for moment in made], [[(5, 7), (8, 8)], [(4, 6), (7, 7)], [(2, 4), (5, 5)]])
        self.assertEqual((made.ending, made.broken), ("whole", None))

    def test_some_states_are_dropped(self):
        body = a_body(1)
        craft = a_craft("a", 0, along_x(100, 131), STILL, 0, [], [Sighting(1, along_x(107, 114))])
        made = journey(body, 2, craft, 2)
        self.assertEqual(xs(made.moment(0)), [(100, 107), (108, 115), (116, 123), (124, 131)])
        self.assertEqual(xs(made.moment(1)), [(107, 114)])
        self.assertEqual(xs(made.moment(2)), [(105, 112)])

    def test_a_sighting_at_the_last_tick(self):
        craft = a_craft("a", 0, along_x(100, 131), STILL, 0, [], [Sighting(2, along_x(97, 101))])
        self.assertEqual(journey(a_body(1), 0, craft, 2).moment(2).place(), along_x(97, 101))
        self.assertEqual(journey(a_body(1), 0, craft, 1).moment(1).place(), along_x(99, 130))


class EndingTest(unittest.TestCase):
    def test_void_at_the_start(self):
        craft = a_craft("a", 5, along_x(10, 20), STILL, 0, [], [Sighting(5, along_x(30, 40))])
        for until in (5, 6, 90):
            made = journey(a_body(1), 2, craft, until)
            self.assertEqual((list(made), made.ending, made.broken), ([], "void", 5))
        self.assertEqual(journey(a_body(1), 2, craft, 4).ending, "whole")

    def test_void_later(self):
        craft = a_craft("a", 5, along_x(50, 60), STILL, 0, [], [Sighting(8, along_x(300, 400))])
        for until in (8, 9, 10 ** 30):
            made = journey(a_body(1), 2, craft, until)
            self.assertEqual([moment.at for moment in made], [5, 6, 7])
            self.assertEqual((made.ending, made.broken), ("void", 8))
        self.assertEqual(journey(a_body(1), 2, craft, 7).ending, "whole")

    def test_lost_at_the_centre(self):
        craft = a_craft("a", 5, along_x(3, 6), STILL, 0)
        # The place is from 3 to 6, then from 2 to 5, then from 0 to 3: the next step is lost.
        made = journey(a_body(1), 0, craft, 50)
        self.assertEqual([moment.place()[0] for moment in made], [(3, 6), (2, 5), (0, 3)])
        self.assertEqual((made.ending, made.broken), ("lost", 8))
        whole = journey(a_body(1), 0, craft, 7)
        self.assertEqual((len(whole.moments), whole.ending, whole.broken), (3, "whole", None))

    def test_one_lost_state_is_enough(self):
        craft = a_craft("a", 5, along_x(0, 90), STILL, 0)
        made = journey(a_body(1), 3, craft, 6)
        self.assertEqual((len(made.moments), made.ending, made.broken), (1, "lost", 6))

    def test_lost_ahead_of_void(self):
        craft = a_craft("a", 5, along_x(0, 90), STILL, 0, [], [Sighting(6, cube(9, 900, 9, 1))])
        self.assertEqual(journey(a_body(1), 3, craft, 6).ending, "lost")

    def test_a_sighting_can_drop_the_state_that_would_be_lost(self):
        craft = a_craft("a", 5, along_x(0, 90), STILL, 0, [], [Sighting(5, along_x(50, 90))])
        self.assertEqual(journey(a_body(1), 3, craft, 6).ending, "whole")

    def test_lost_beyond_the_bound(self):
        # The pull over a box that begins beside the centre and is very wide goes far beyond the bound.
        body = a_body(10 ** 30, 10 ** 30)
        wide = along_x(1, 10 ** 15)
        self.assertGreater(box_size(pull_over(body, wide)), LIMIT)
        made = journey(body, 0, a_craft("a", 3, wide, STILL, 0), 9)
        self.assertEqual((told(made), made.ending, made.broken), ([(3, [(wide, STILL)])], "lost", 4))
        narrow = along_x(10 ** 15, 10 ** 15)
        self.assertEqual(journey(body, 0, a_craft("a", 3, narrow, STILL, 0), 9).ending, "whole")


class MotionsTest(unittest.TestCase):
    def test_motions_that_obey_are_in_a_state_at_each_tick(self):
        rng = random.Random(9)
        for number in range(40):
            body = a_body(10 ** 9, rng.choice([0, 10 ** 17]))
            bare = orbiter(drift=rng.randint(0, 4))
            motion = obeying_motion(rng, body, bare, 15)
            at = rng.randint(3, 15)
            craft = orbiter(drift=bare.drift, sightings=[seen_at(motion, 3, at, rng.randint(0, 3))])
            made = journey(body, number % 4, craft, 15)
            self.assertEqual(made.ending, "whole")
            for moment, (place, speed) in zip(made, motion):
                self.assertTrue(any(state_has(state, place, speed) for state in moment.states))

    def test_one_start_alone(self):
        burns = [Burn(4, 7, cube(1, 2, 3, 0))]
        craft = a_craft("a", 2, cube(9000, 100, -70, 0), cube(3, 300, 20, 0), 0, burns)
        body = a_body(10 ** 9, 10 ** 12)
        made = journey(body, 6, craft, 12)
        motion = middle_motion(body, craft, 12)
        wanted = [(at, [(point_box(place), point_box(speed))]) for at, (place, speed) in enumerate(motion, 2)]
        self.assertEqual(told(made), wanted)

    def test_cuts_as_steps_tell(self):
        rng = random.Random(10)
        body = a_body(10 ** 9)
        motion = obeying_motion(rng, body, orbiter(), 9)
        sightings = [seen_at(motion, 3, at, 2) for at in (3, 6, 9)]
        craft = orbiter(sightings=sightings)
        states = parts_of(State(craft.place, craft.speed), 4)
        made = journey(body, 4, craft, 9)
        for at in range(3, 10):
            box = sighting_at(craft, at)
            if box is not None:
                states = [kept for kept in [cut(state, box) for state in states] if kept is not None]
            self.assertEqual(rows(made.moment(at).states), rows(states))
            states = [step(body, state, slow_push(craft, at), craft.drift) for state in states]


if __name__ == "__main__":
    unittest.main()
