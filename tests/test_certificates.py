"""Points [34], [35] and [38]: certificates and their texts."""

import random
import unittest

from orrery.data import Body, Burn, Contents, Sighting
from orrery.errors import CourseLost, CourseVoid, OrreryError
from orrery.papers.certificates import Certificate, certificate_text, certify
from orrery.ways.journeys import journey
from orrery.ways.parts import State

from worlds import STILL, a_body, a_craft, contents, cube, obeying_motion, orbiter, rows, seen_at


def along_x(low, high):
    return ((low, high), (0, 0), (0, 0))


def claimed(certificate):
    return [rows(claim) for claim in certificate.claims]


class CertificateTest(unittest.TestCase):
    def test_fields(self):
        body, craft, state = a_body(), a_craft(), State(STILL, STILL)
        made = Certificate(body, 3, craft, [[state], []])
        self.assertIs(made.body, body)
        self.assertIs(made.craft, craft)
        self.assertEqual((made.fineness, made.claims), (3, [[state], []]))

    def test_lists_handed_in_and_changed_later(self):
        claims = [[State(STILL, STILL)], [State(cube(1, 1, 1, 1), STILL)]]
        made = Certificate(a_body(), 0, a_craft(), claims)
        claims[0].append(State(STILL, STILL))
        claims[1].clear()
        claims.append([])
        self.assertEqual(claimed(made), [[(STILL, STILL)], [(cube(1, 1, 1, 1), STILL)]])


class CertifyTest(unittest.TestCase):
    def check(self, held, craft, until):
        told = certify(held, craft, until)
        moments = journey(held.body, held.fineness, craft, until).moments
        self.assertEqual(claimed(told), [rows(moment.states) for moment in moments])
        self.assertEqual(len(told.claims), until - craft.start + 1)
        self.assertEqual((told.body, told.fineness, told.craft), (held.body, held.fineness, craft))

    def test_the_states_of_each_moment(self):
        motion = obeying_motion(random.Random(2), a_body(), orbiter(), 30)
        for fineness in (0, 1, 4):
            for sightings in ((), [seen_at(motion, 3, at, 3) for at in (3, 5, 6, 12)]):
                for until in (3, 4, 6, 15):
                    craft = orbiter(sightings=sightings)
                    self.check(contents(a_body(), [craft], 7, fineness), craft, until)

    def test_a_craft_that_the_contents_do_not_hold(self):
        self.check(contents(a_body()), orbiter(), 7)

    def test_void(self):
        craft = a_craft("a", 5, along_x(50, 60), STILL, 0, [], [Sighting(8, along_x(300, 400))])
        held = contents(a_body(1), [craft])
        self.check(held, craft, 7)
        for until in (8, 9, 1000):
            with self.assertRaises(CourseVoid) as caught:
                certify(held, craft, until)
            self.assertEqual(caught.exception.at, 8)
        self.assertIsInstance(caught.exception, OrreryError)

    def test_void_at_the_start(self):
        craft = a_craft("a", 5, along_x(50, 60), STILL, 0, [], [Sighting(5, along_x(300, 400))])
        for until in (5, 6):
            with self.assertRaises(CourseVoid) as caught:
                certify(contents(a_body(1), [craft]), craft, until)
            self.assertEqual(caught.exception.at, 5)

    def test_lost(self):
        # There are moments at 5, 6 and 7 (test_journeys); the step to 8 is lost.
        craft = a_craft("a", 5, along_x(3, 6), STILL, 0)
        held = contents(a_body(1), [craft])
        self.check(held, craft, 7)
        for until in (8, 30):
            with self.assertRaises(CourseLost) as caught:
                certify(held, craft, until)
            self.assertEqual(caught.exception.at, 8)

    def test_the_lists_are_new(self):
        held = contents(a_body(), [orbiter()])
        first = certify(held, orbiter(), 5)
        wanted = claimed(first)
        first.claims[0].clear()
        first.claims.pop()
        self.assertEqual(claimed(certify(held, orbiter(), 5)), wanted)


class TextTest(unittest.TestCase):
    def test_line_by_line(self):
        burns = [Burn(7, 9, ((-1, 2), (3, 4), (-6, -5))), Burn(9, 100000, cube(0, 0, 0, 10 ** 12))]
        sightings = [Sighting(7, cube(0, 0, 0, 10 ** 15)), Sighting(8, ((0, 1), (-2, -1), (7, 9)))]
        craft = a_craft("a_0", 7, ((-12, -3), (0, 5), (10 ** 15, 10 ** 15)), ((1, 1), (2, 2), (-3, 3)), 40, burns,
                        sightings)
        far = ((-10 ** 59, 10 ** 59), (0, 0), (-1, 1))
        claims = [[State(cube(1, -2, 3, 1), STILL), State(far, cube(5, 5, 5, 2))], [], [State(STILL, STILL)]]
        made = Certificate(Body(10 ** 30, 0, (-4, 3, 5)), 6, craft, claims)
        self.assertEqual(certificate_text(made), (
            "orrery certificate\n"
            "body 1000000000000000000000000000000 0 -4 3 5\n"
            "fineness 6\n"
            "craft a_0 7 40\n"
            "place -12 -3 0 5 1000000000000000 1000000000000000\n"
            "speed 1 1 2 2 -3 3\n"
            "burn 7 9 -1 2 3 4 -6 -5\n"
            "burn 9 100000" + " -1000000000000 1000000000000" * 3 + "\n"
            "seen 7" + " -1000000000000000 1000000000000000" * 3 + "\n"
            "seen 8 0 1 -2 -1 7 9\n"
            "claim 2\n"
            "state 0 2 -3 -1 2 4 0 0 0 0 0 0\n"
            "state -1" + "0" * 59 + " 1" + "0" * 59 + " 0 0 -1 1 3 7 3 7 3 7\n"
            "claim 0\n"
            "claim 1\n"
            "state 0 0 0 0 0 0 0 0 0 0 0 0\n"
        ))

    def test_without_burns_and_sightings(self):
        made = Certificate(Body(5, 6, (1, 0, 1)), 0, a_craft("zz", 0), [[]])
        self.assertEqual(certificate_text(made), (
            "orrery certificate\nbody 5 6 1 0 1\nfineness 0\ncraft zz 0 0\n"
            "place 0 0 0 0 0 0\nspeed 0 0 0 0 0 0\nclaim 0\n"
        ))

    def test_numbers_of_very_many_digits(self):
        number = 10 ** 6000 + 7
        made = Certificate(a_body(), 0, a_craft(), [[State(along_x(-number, number), STILL)]])
        digits = "1" + "0" * 5999 + "7"
        self.assertTrue(certificate_text(made).endswith(f"state -{digits} {digits}" + " 0" * 10 + "\n"))

    def test_the_text_of_a_told_certificate(self):
        craft = a_craft("a", 5, along_x(3, 6), STILL, 0)
        held = Contents(a_body(1), 9, 1, [craft])
        self.assertEqual(certificate_text(certify(held, craft, 5)), (
            "orrery certificate\nbody 1 0 1 0 1\nfineness 1\ncraft a 5 0\n"
            "place 3 6 0 0 0 0\nspeed 0 0 0 0 0 0\nclaim 2\n"
            "state 3 4 0 0 0 0 0 0 0 0 0 0\nstate 5 6 0 0 0 0 0 0 0 0 0 0\n"
        ))


if __name__ == "__main__":
    unittest.main()
