"""Points [20] and [21]: states, how they are split, and their parts."""

import itertools
import random
import unittest

from orrery.ways.parts import State, parts_of, split, state_has, state_inside

from worlds import STILL, cube, rows

PLACE = ((0, 4), (0, 9), (-9, 0))
SPEED = ((1, 3), (-5, 4), (0, 0))


def members(state):
    spans = [range(low, high + 1) for low, high in state.place + state.speed]
    return set(itertools.product(*spans))


class SplitTest(unittest.TestCase):
    def test_the_first_of_several_of_the_greatest_width(self):
        told = rows(split(State(PLACE, SPEED)))
        self.assertEqual(told[0], (((0, 4), (0, 4), (-9, 0)), SPEED))
        self.assertEqual(told[1], (((0, 4), (5, 9), (-9, 0)), SPEED))
        self.assertEqual(len(told), 2)

    def test_each_of_the_six_intervals(self):
        for number in range(6):
            six = [(3, 5)] * 6
            six[number] = (-7, -4)
            lower, upper = list(six), list(six)
            lower[number], upper[number] = (-7, -6), (-5, -4)
            told = rows(split(State(tuple(six[:3]), tuple(six[3:]))))
            wanted = [(tuple(half[:3]), tuple(half[3:])) for half in (lower, upper)]
            self.assertEqual(told, wanted)

    def test_place_ahead_of_speed(self):
        told = rows(split(State(cube(0, 0, 0, 1), cube(0, 0, 0, 1))))
        self.assertEqual(told[0][0], ((-1, 0), (-1, 1), (-1, 1)))
        self.assertEqual(told[1][0], ((1, 1), (-1, 1), (-1, 1)))

    def test_a_state_of_one_member(self):
        told = split(State(cube(1, 2, 3, 0), cube(4, 5, 6, 0)))
        self.assertEqual(rows(told), [(cube(1, 2, 3, 0), cube(4, 5, 6, 0))])

    def test_the_state_stays_as_it_is(self):
        state = State(PLACE, SPEED)
        split(state)
        parts_of(state, 3)
        self.assertEqual((state.place, state.speed), (PLACE, SPEED))


class PartsTest(unittest.TestCase):
    def test_by_none_one_and_two(self):
        state = State(((0, 3), (0, 0), (0, 0)), STILL)
        xs = lambda told: [part.place[0] for part in told]
        self.assertEqual(rows(parts_of(state, 0)), [(state.place, STILL)])
        self.assertEqual(xs(parts_of(state, 1)), [(0, 1), (2, 3)])
        self.assertEqual(xs(parts_of(state, 2)), [(0, 0), (1, 1), (2, 2), (3, 3)])
        self.assertEqual(xs(parts_of(state, 5)), [(0, 0), (1, 1), (2, 2), (3, 3)])

    def test_each_part_is_split_on_its_own(self):
        state = State(((0, 4), (0, 2), (0, 0)), STILL)
        wanted = [((0, 1), (0, 2)), ((2, 2), (0, 2)), ((3, 4), (0, 1)), ((3, 4), (2, 2))]
        told = [part.place[:2] for part in parts_of(state, 2)]
        # (0, 2) and (0, 2) are as wide as each other in the lower half: x comes first.
        self.assertEqual(told, wanted)

    def test_the_parts_share_out_the_members(self):
        rng = random.Random(7)
        for _ in range(25):
            six = [(low, low + rng.randint(0, 3)) for low in [rng.randint(-9, 9) for _ in range(6)]]
            state = State(tuple(six[:3]), tuple(six[3:]))
            for fineness in (1, 2, 4):
                parts = parts_of(state, fineness)
                self.assertLessEqual(len(parts), 2 ** fineness)
                self.assertEqual(sum(len(members(part)) for part in parts), len(members(state)))
                self.assertEqual(set().union(*[members(part) for part in parts]), members(state))
                halves = [half for part in parts_of(state, fineness - 1) for half in split(part)]
                self.assertEqual(rows(parts), rows(halves))


class InsideTest(unittest.TestCase):
    def test_state_inside(self):
        state = State(PLACE, SPEED)
        self.assertIs(state_inside(State(PLACE, SPEED), state), True)
        self.assertIs(state_inside(State(cube(2, 2, -2, 1), ((2, 2), (0, 0), (0, 0))), state), True)
        self.assertIs(state_inside(State(cube(2, 2, 2, 1), SPEED), state), False)
        self.assertIs(state_inside(State(PLACE, ((1, 3), (-5, 5), (0, 0))), state), False)

    def test_state_has(self):
        state = State(PLACE, SPEED)
        self.assertIs(state_has(state, (0, 9, -9), (3, 4, 0)), True)
        self.assertIs(state_has(state, (0, 10, -9), (3, 4, 0)), False)
        self.assertIs(state_has(state, (0, 9, -9), (3, 4, 1)), False)
        self.assertIs(state_has(state, (5, 9, -9), (0, 4, 1)), False)


if __name__ == "__main__":
    unittest.main()
