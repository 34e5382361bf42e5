"""Points [22] and [23]: steps and cuts."""

import random
import unittest

from orrery.forces.motions import advance
from orrery.space.boxes import point_box
from orrery.ways.parts import State, state_has
from orrery.ways.steps import LIMIT, cut, step

from worlds import STILL, a_body, cube, member, rows

FAR = ((10 ** 20, 10 ** 20), (0, 0), (0, 0))


def along_x(low, high):
    return ((low, high), (0, 0), (0, 0))


class StepTest(unittest.TestCase):
    def test_speed_first_and_place_with_the_next_speed(self):
        # The pull over x from 3 to 4 is from -15 to -5.
        state = State(along_x(3, 4), ((100, 102), (7, 8), (-1, 0)))
        told = step(a_body(100), state, ((10, 20), (1, 1), (0, 3)), 2)
        speed = ((100 - 15 + 10 - 2, 102 - 5 + 20 + 2), (6, 11), (-3, 5))
        self.assertEqual(rows([told]), [(((96, 121 + 2), (6, 11), (-3, 5)), speed)])

    def test_lost_at_the_centre(self):
        self.assertIsNone(step(a_body(), State(cube(1, 1, 1, 1), STILL), STILL, 0))
        self.assertIsNone(step(a_body(), State(STILL, STILL), cube(9, 9, 9, 0), 0))
        self.assertIsNotNone(step(a_body(), State(cube(2, 1, 1, 1), STILL), STILL, 0))

    def test_the_limit(self):
        self.assertEqual(LIMIT, 10 ** 40)

    def test_a_place_beyond_the_limit(self):
        # Far out, the pull along x is -1.
        for sign in (1, -1):
            for much, lost in [(0, False), (1, True)]:
                speed = along_x(*sorted([0, sign * (LIMIT - 10 ** 20 + (1 if sign == 1 else 0) + much)]))
                place = along_x(sign * 10 ** 20, sign * 10 ** 20)
                told = step(a_body(1), State(place, speed), STILL, 0)
                self.assertEqual(told is None, lost, (sign, much))
                if not lost:
                    self.assertEqual(max(abs(end) for end in told.place[0]), LIMIT)

    def test_a_speed_beyond_the_limit(self):
        place = along_x(-9, -9)
        # The pull along x is 0 there, and the place comes out 9 below the speed.
        for much, lost in [(0, False), (1, True)]:
            state = State(place, along_x(LIMIT - 5, LIMIT - 5))
            told = step(a_body(1), state, along_x(5, 5 + much), 0)
            self.assertEqual(told is None, lost)
            state = State(place, along_x(LIMIT - 5, LIMIT - 5))
            self.assertEqual(step(a_body(1), state, STILL, 5 + much) is None, lost)

    def test_each_interval_counts(self):
        for number in range(3):
            push = [(0, 0)] * 3
            push[number] = (-LIMIT - 1, 0)
            self.assertIsNone(step(a_body(1), State(cube(9, 9, 9, 0), STILL), tuple(push), 0))

    def test_the_steps_of_members_are_members(self):
        rng = random.Random(8)
        for _ in range(200):
            body = a_body(10 ** 6, rng.choice([0, 10 ** 8]))
            place = cube(rng.randint(30, 90), rng.randint(-90, 90), rng.randint(-90, 90), rng.randint(0, 9))
            speed = cube(rng.randint(-9, 9), 0, 3, rng.randint(0, 3))
            push, drift = cube(1, 2, 3, rng.randint(0, 2)), rng.randint(0, 3)
            told = step(body, State(place, speed), push, drift)
            u = member(rng, cube(0, 0, 0, drift))
            both = tuple(c + d for c, d in zip(member(rng, push), u))
            after = advance(body, member(rng, place), member(rng, speed), both)
            self.assertTrue(state_has(told, *after))

    def test_a_state_of_one_member_without_drift(self):
        told = step(a_body(1000), State(point_box((0, 3, -4)), point_box((1, 2, 3))), STILL, 0)
        place, speed = advance(a_body(1000), (0, 3, -4), (1, 2, 3), (0, 0, 0))
        self.assertEqual(rows([told]), [(point_box(place), point_box(speed))])


class CutTest(unittest.TestCase):
    def test_with_a_common_part(self):
        told = cut(State(cube(0, 0, 0, 5), cube(1, 2, 3, 4)), ((5, 9), (-9, 9), (1, 2)))
        self.assertEqual(rows([told]), [(((5, 5), (-5, 5), (1, 2)), cube(1, 2, 3, 4))])

    def test_without_a_common_part(self):
        self.assertIsNone(cut(State(cube(0, 0, 0, 5), STILL), ((-9, 9), (6, 9), (-9, 9))))

    def test_the_state_stays_as_it_is(self):
        state = State(cube(0, 0, 0, 5), STILL)
        cut(state, cube(0, 0, 0, 1))
        step(a_body(), state, STILL, 1)
        self.assertEqual((state.place, state.speed), (cube(0, 0, 0, 5), STILL))


if __name__ == "__main__":
    unittest.main()
