"""Point [27]: courses."""

import random
import unittest

from orrery.data import Sighting
from orrery.space.boxes import box_has, box_hull
from orrery.ways.courses import Course, Piece, course
from orrery.ways.journeys import journey
from orrery.ways.parts import State, parts_of
from orrery.ways.steps import cut, step

from worlds import STILL, a_body, a_craft, contents, cube, obeying_motion, orbiter, seen_at, slow_push


def along_x(low, high):
    return ((low, high), (0, 0), (0, 0))


def pieces(made):
    return [(piece.begin, piece.end, piece.parts) for piece in made.pieces]


def slow_pieces(body, fineness, craft, stride, count):
    """The pieces by following each state through all ticks; none may be lost."""
    trails = [(state, None) for state in parts_of(State(craft.place, craft.speed), fineness)]
    told = []
    for at in range(craft.start, craft.start + stride * count):
        boxes = [sighting.place for sighting in craft.sightings if sighting.at == at]
        cuts = [(cut(state, boxes[0]) if boxes else state, whole) for state, whole in trails]
        trails = []
        for state, whole in cuts:
            if state is not None:
                fresh = (at - craft.start) % stride == 0
                trails.append((state, state.place if fresh else box_hull(whole, state.place)))
        if (at - craft.start) % stride == stride - 1:
            told.append((at - stride + 1, at, tuple(whole for _, whole in trails)))
        trails = [(step(body, state, slow_push(craft, at), craft.drift), whole) for state, whole in trails]
    return told


class ClassesTest(unittest.TestCase):
    def test_piece(self):
        parts = [cube(0, 0, 0, 1), cube(9, 0, -9, 2)]
        piece = Piece(3, 5, parts)
        parts.pop()
        self.assertEqual((piece.begin, piece.end), (3, 5))
        self.assertEqual(piece.parts, (cube(0, 0, 0, 1), cube(9, 0, -9, 2)))
        self.assertEqual(piece.during(), ((-1, 11), (-2, 2), (-11, 1)))

    def test_course(self):
        made = [Piece(0, 0, (STILL,))]
        told = Course(made, "lost")
        made.append(Piece(1, 1, (STILL,)))
        self.assertEqual((len(told.pieces), told.ending), (1, "lost"))


class ExtentTest(unittest.TestCase):
    def ticks(self, until, stride):
        made = course(contents(a_body(10 ** 9), [], stride), orbiter(), until)
        self.assertEqual(made.ending, "whole")
        return [(piece.begin, piece.end) for piece in made.pieces]

    def test_before_the_start(self):
        for until in (-70, 0, 2):
            self.assertEqual(self.ticks(until, 1), [])
            self.assertEqual(self.ticks(until, 4), [])

    def test_begin_within_and_end(self):
        self.assertEqual(self.ticks(3, 4), [(3, 6)])
        self.assertEqual(self.ticks(5, 4), [(3, 6)])
        self.assertEqual(self.ticks(6, 4), [(3, 6)])
        self.assertEqual(self.ticks(7, 4), [(3, 6), (7, 10)])
        self.assertEqual(self.ticks(11, 4), [(3, 6), (7, 10), (11, 14)])

    def test_stride_of_one(self):
        self.assertEqual(self.ticks(3, 1), [(3, 3)])
        self.assertEqual(self.ticks(6, 1), [(3, 3), (4, 4), (5, 5), (6, 6)])


class EndingTest(unittest.TestCase):
    def test_lost_within_a_piece(self):
        # There are moments at 5, 6 and 7 (test_journeys); the step to 8 is lost.
        craft = a_craft("a", 5, along_x(3, 6), STILL, 0)
        for until, stride, ends, ending in [
            (5, 2, [6], "whole"), (6, 2, [6], "whole"), (7, 2, [6], "lost"), (90, 2, [6], "lost"),
            (5, 3, [7], "whole"), (8, 3, [7], "lost"), (7, 1, [5, 6, 7], "whole"), (8, 1, [5, 6, 7], "lost"),
            (5, 4, [], "lost"), (4, 4, [], "whole"),
        ]:
            made = course(contents(a_body(1), [], stride), craft, until)
            told = ([piece.end for piece in made.pieces], made.ending)
            self.assertEqual(told, (ends, ending), (until, stride))

    def test_void(self):
        sightings = [Sighting(8, along_x(300, 400))]
        craft = a_craft("a", 5, along_x(50, 60), STILL, 0, [], sightings)
        made = course(contents(a_body(1), [], 2), craft, 7)
        self.assertEqual(([piece.end for piece in made.pieces], made.ending), ([6], "void"))
        made = course(contents(a_body(1), [], 3), craft, 10 ** 30)
        self.assertEqual(([piece.end for piece in made.pieces], made.ending), ([7], "void"))
        nowhere = a_craft("a", 5, along_x(50, 60), STILL, 0, [], [Sighting(5, along_x(300, 400))])
        made = course(contents(a_body(1), [], 1), nowhere, 5)
        self.assertEqual((made.pieces, made.ending), ([], "void"))


class PartsTest(unittest.TestCase):
    def test_only_the_states_that_are_left_at_the_end(self):
        # The quarters begin 8 wide at 100; the speed is -1, then -2.
        craft = a_craft("a", 0, along_x(100, 131), STILL, 0, [], [Sighting(1, along_x(107, 114))])
        made = course(contents(a_body(1), [], 3, 2), craft, 2)
        self.assertEqual(pieces(made), [(0, 2, (along_x(105, 115),))])
        made = course(contents(a_body(1), [], 1, 2), craft, 2)
        quarters = tuple(along_x(low, low + 7) for low in (100, 108, 116, 124))
        self.assertEqual(pieces(made), [(0, 0, quarters), (1, 1, (along_x(107, 114),)), (2, 2, (along_x(105, 112),))])

    def test_each_state_with_those_that_it_came_from(self):
        craft = a_craft("a", 0, along_x(100, 131), STILL, 0, [], [Sighting(2, along_x(101, 110))])
        made = course(contents(a_body(1), [], 4, 2), craft, 0)
        # At tick 2 the quarters are from 97, 105, 113 and 121 on: the first two are left, and cut.
        # At tick 3 they have gone on by -3; the piece ends there.
        self.assertEqual(pieces(made), [(0, 3, (along_x(98, 107), along_x(102, 115)))])
        self.assertEqual(made.pieces[0].during(), along_x(98, 115))

    def test_against_following_each_state(self):
        rng = random.Random(11)
        for stride in (1, 2, 3, 5):
            for fineness in (0, 1, 3):
                body = a_body(10 ** 9, 10 ** 16)
                motion = obeying_motion(rng, body, orbiter(), 40)
                craft = orbiter(sightings=[seen_at(motion, 3, at, 1) for at in (3, 5, 6, 10)])
                made = course(contents(body, [], stride, fineness), craft, 3 + 2 * stride)
                self.assertEqual(pieces(made), slow_pieces(body, fineness, craft, stride, 3))
                self.assertEqual(made.ending, "whole")

    def test_a_motion_is_in_the_same_part_at_all_ticks_of_a_piece(self):
        rng = random.Random(12)
        for _ in range(30):
            body = a_body(10 ** 9)
            motion = obeying_motion(rng, body, orbiter(), 30)
            craft = orbiter(sightings=[seen_at(motion, 3, at, 2) for at in (4, 11)])
            for piece in course(contents(body, [], 4, 3), craft, 20).pieces:
                places = [place for place, _ in motion[piece.begin - 3:piece.end - 2]]
                self.assertEqual(len(places), 4)
                held = [part for part in piece.parts if all(box_has(part, place) for place in places)]
                self.assertTrue(held)
                self.assertTrue(all(box_has(piece.during(), place) for place in places))

    def test_a_stride_of_one_has_the_places_of_the_moments(self):
        made = course(contents(a_body(10 ** 9), [], 1, 2), orbiter(), 9)
        moments = journey(a_body(10 ** 9), 2, orbiter(), 9).moments
        wanted = [(m.at, m.at, tuple(state.place for state in m.states)) for m in moments]
        self.assertEqual(pieces(made), wanted)


if __name__ == "__main__":
    unittest.main()
