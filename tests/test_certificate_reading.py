"""Point [39]: how texts of certificates are read, and which line of others is at fault."""

import random
import unittest

from orrery.data import Body, Burn, Sighting, body_data, craft_data
from orrery.errors import OrreryError
from orrery.papers.certificates import Certificate, certificate_text, certify
from orrery.papers.reading import read_certificate
from orrery.ways.parts import State

from texts import ReaderTest, joined
from worlds import STILL, a_body, a_craft, contents, cube, obeying_motion, orbiter, rows, seen_at

LINES = [
    "orrery certificate",                        # 1
    "body 1000 50 -4 3 5",                       # 2
    "fineness 2",                                # 3
    "craft a_0 7 40",                            # 4
    "place -12 -3 0 5 8 8",                      # 5
    "speed 1 1 2 2 -3 3",                        # 6
    "burn 7 9 -1 2 3 4 -6 -5",                   # 7
    "burn 9 10 -1 2 3 4 -6 -5",                  # 8
    "burn 20 25 0 0 0 0 0 0",                    # 9
    "seen 7 -2 0 -1 7 9 9",                      # 10
    "seen 9 0 1 -2 -1 7 9",                      # 11
    "claim 2",                                   # 12
    "state -9 9 -8 8 -7 7 -6 6 -5 5 -4 4",       # 13
    "state 1 2 3 4 5 6 7 8 9 10 11 12",          # 14
    "claim 0",                                   # 15
    "claim 1",                                   # 16
    "state 0 0 0 0 0 0 0 0 0 0 0 0",             # 17
]
TEXT = joined(LINES)


class ReadingTest(ReaderTest):
    kind, lines = "certificate", LINES

    def read(self, text):
        return read_certificate(text)

    def write(self, told):
        return certificate_text(told)


class ReadBackTest(ReadingTest):
    def check(self, made):
        told = read_certificate(certificate_text(made))
        self.assertEqual(body_data(told.body), body_data(made.body))
        self.assertEqual(craft_data(told.craft), craft_data(made.craft))
        self.assertEqual(told.fineness, made.fineness)
        self.assertEqual([rows(claim) for claim in told.claims], [rows(claim) for claim in made.claims])
        self.assertEqual(certificate_text(told), certificate_text(made))

    def test_told_certificates(self):
        motion = obeying_motion(random.Random(4), a_body(), orbiter(), 30)
        for fineness in (0, 3, 6):
            craft = orbiter(sightings=[seen_at(motion, 3, at, 3) for at in (3, 5)])
            for until in (3, 9):
                self.check(certify(contents(a_body(), [craft], 1, fineness), craft, until))

    def test_made_certificates(self):
        most = 10 ** 60 - 1
        claims = [[], [State(((-most, most), (-most, -most), (most, most)), STILL)] * 3, []]
        craft = a_craft("abcdefghijkl", 100000, cube(0, 0, 0, 10 ** 15), cube(0, 0, 0, 10 ** 15), 10 ** 12)
        self.check(Certificate(Body(10 ** 30, 10 ** 30, (0, -10 ** 6, 10 ** 6)), 6, craft, claims))
        self.check(Certificate(Body(1, 0, (1, 0, 1)), 0, a_craft("_", 0), [[]]))

    def test_more_than_twenty_burns_and_sightings(self):
        burns = [Burn(at, at + 1, cube(at, 0, 0, 1)) for at in range(3, 50)]
        sightings = [Sighting(at, cube(at, 0, 0, 1)) for at in range(3, 50)]
        self.check(Certificate(a_body(), 1, a_craft("a", 3, STILL, STILL, 0, burns, sightings), [[]]))

    def test_the_text_of_this_file(self):
        told = read_certificate(TEXT)
        self.assertEqual(body_data(told.body), (1000, 50, (-4, 3, 5)))
        self.assertEqual(craft_data(told.craft), (
            "a_0", 7, ((-12, -3), (0, 5), (8, 8)), ((1, 1), (2, 2), (-3, 3)), 40,
            ((7, 9, ((-1, 2), (3, 4), (-6, -5))), (9, 10, ((-1, 2), (3, 4), (-6, -5))), (20, 25, STILL)),
            ((7, ((-2, 0), (-1, 7), (9, 9))), (9, ((0, 1), (-2, -1), (7, 9)))),
        ))
        first = (((-9, 9), (-8, 8), (-7, 7)), ((-6, 6), (-5, 5), (-4, 4)))
        second = (((1, 2), (3, 4), (5, 6)), ((7, 8), (9, 10), (11, 12)))
        self.assertEqual([rows(claim) for claim in told.claims], [[first, second], [], [(STILL, STILL)]])


class FormTest(ReadingTest):
    def test_each_line_misshapen(self):
        self.faults_of_form()

    def test_the_first_line(self):
        self.line_refused(1, "orrery contents", "orrery", "certificate", "orrery Certificate", "orrery certificate 1")

    def test_numbers_of_sixty_and_sixty_one_digits(self):
        for start in ("9", "-9"):
            self.line_taken(13, "state -9 9 -8 8" + f" {start}{'9' * 59}" * 2 + " -6 6 -5 5 -4 4")
            self.line_refused(13, "state -9 9 -8 8" + f" {start}{'9' * 60}" * 2 + " -6 6 -5 5 -4 4")
        self.line_refused(2, f"body {'9' * 61} 50 -4 3 5")
        self.line_refused(16, "claim 1" + "0" * 60, "claim " + "9" * 5000)

    def test_texts_that_end_early(self):
        self.refused("", 1)
        for many in range(1, len(LINES)):
            text = joined(LINES[:many])
            if LINES[many].startswith("claim") and many > 11:
                self.taken(text)
            else:
                self.refused(text, many + 1)

    def test_texts_that_end_within_a_line(self):
        self.ends_within_a_line()

    def test_a_fault_ahead_of_an_end_that_is_missing(self):
        self.refused(joined(LINES[:4] + ["place 1"] + LINES[5:9]) + "seen", 5)

    def test_more_at_the_end(self):
        for more in ("\n", "x", "x\n", " ", "\r\n", "state 0 0 0 0 0 0 0 0 0 0 0 0\n", "seen 30 0 0 0 0 0 0\n",
                     "claim\n"):
            self.refused(TEXT + more, 18)
        self.refused(TEXT + "\n\n", 18)
        self.refused(TEXT + TEXT, 18)
        self.assertEqual(len(read_certificate(TEXT + "claim 0\n").claims), 4)

    def test_other_line_ends(self):
        self.other_line_ends()


class OrderTest(ReadingTest):
    def test_lines_left_out(self):
        for number in (1, 2, 3, 4, 5, 6):
            self.refused(joined(LINES[:number - 1] + LINES[number:]), number)
        # Of the two states the second one is missing then.
        self.refused(joined(LINES[:12] + LINES[13:]), 14)
        self.refused(joined(LINES[:11] + LINES[12:]), 12)
        self.refused(joined(LINES[:16]), 17)
        for number in (7, 8, 9, 10, 11, 15):
            read_certificate(joined(LINES[:number - 1] + LINES[number:]))

    def test_lines_said_twice(self):
        for number in (1, 2, 3, 4, 5, 6, 7, 8, 9, 10, 11, 12, 16, 17):
            self.refused(joined(LINES[:number] + LINES[number - 1:]), number + 1)
        self.refused(joined(LINES[:13] + LINES[12:]), 15)
        read_certificate(joined(LINES[:15] + LINES[14:]))

    def test_lines_exchanged(self):
        for number in (1, 2, 3, 4, 5, 7, 10, 11, 12):
            changed = LINES[:number - 1] + [LINES[number], LINES[number - 1]] + LINES[number + 1:]
            self.refused(joined(changed), number + (number in (7, 10, 11)))

    def test_burns_behind_sightings(self):
        self.refused(joined(LINES[:11] + ["burn 30 31 0 0 0 0 0 0"] + LINES[11:]), 12)

    def test_no_claim(self):
        self.refused(joined(LINES[:11]), 12)
        self.refused(joined(LINES[:6]), 7)
        self.refused(joined(LINES[:11] + LINES[12:]), 12)


class BoundsTest(ReadingTest):
    def test_body(self):
        self.line_taken(2, "body 1 0 1 0 1", f"body {10 ** 30} {10 ** 30} 0 {-10 ** 6} {10 ** 6}")
        self.line_refused(2, "body 0 0 1 0 1", "body -1 0 1 0 1", f"body {10 ** 30 + 1} 0 1 0 1")
        self.line_refused(2, "body 1 -1 1 0 1", f"body 1 {10 ** 30 + 1} 1 0 1")
        self.line_refused(2, "body 1 0 1 1 1", "body 1 0 0 0 0", "body 1 0 3 4 -5")
        self.line_refused(2, f"body 1 0 {10 ** 6 + 1} 0 {10 ** 6 + 1}")

    def test_fineness(self):
        self.line_taken(3, "fineness 0", "fineness 6")
        self.line_refused(3, "fineness -1", "fineness 7")

    def test_craft(self):
        self.line_taken(4, "craft abcdefghijkl 0 0", "craft _ 7 1000000000000", "craft 0 7 40", "craft 007 7 40")
        self.line_refused(4, "craft abcdefghijklm 7 40", "craft A 7 40", "craft a- 7 40", "craft \u00e4 7 40",
                          "craft  7 40")
        self.line_refused(4, "craft a -1 40", "craft a 100001 40", "craft a 7 -1", "craft a 7 1000000000001")
        # A start that is too late for the burns behind it is a fault of the line of the burn.
        self.refused(self.with_line(4, "craft a 8 40"), 7)
        self.refused(self.with_line(4, "craft a 100000 40"), 7)

    def test_place_and_speed(self):
        self.box_bounds(5, "place", 10 ** 15)
        self.box_bounds(6, "speed", 10 ** 15)

    def test_burns(self):
        self.box_bounds(9, "burn 10 100000", 10 ** 12)
        self.line_taken(9, "burn 99999 100000 0 0 0 0 0 0")
        self.line_taken(7, "burn 8 9 0 0 0 0 0 0")
        still = " 0 0 0 0 0 0"
        # Those that overlap, stand in another order, have no tick, or begin ahead of the start.
        self.line_refused(9, "burn 9 12" + still, "burn 8 9" + still, "burn 0 1" + still, "burn 12 12" + still)
        self.line_refused(9, "burn 25 20" + still, "burn 20 100001" + still, "burn -1 20" + still)
        self.line_refused(7, "burn 6 9" + still, "burn 0 8" + still, "burn -1 8" + still)
        self.refused(self.with_line(7, "burn 7 10" + still), 8)

    def test_sightings(self):
        self.box_bounds(11, "seen 100000", 10 ** 15)
        self.line_taken(11, "seen 8 0 0 0 0 0 0")
        self.line_refused(11, "seen 7 0 0 0 0 0 0", "seen 6 0 0 0 0 0 0", "seen 100001 0 0 0 0 0 0")
        self.line_refused(10, "seen 6 0 0 0 0 0 0", "seen -1 0 0 0 0 0 0")
        self.refused(self.with_line(10, "seen 9 0 0 0 0 0 0"), 11)

    def test_claims(self):
        self.line_refused(12, "claim -1", "claim -2")
        self.line_refused(15, "claim -1")
        self.refused(self.with_line(12, "claim 3"), 15)
        self.refused(self.with_line(12, "claim 1"), 14)
        self.refused(self.with_line(12, "claim 0"), 13)
        self.refused(self.with_line(15, "claim 1"), 16)
        self.refused(self.with_line(16, "claim 2"), 18)
        self.refused(self.with_line(16, "claim 0"), 17)
        self.refused(self.with_line(16, "claim " + "9" * 60), 18)

    def test_states(self):
        for k in range(6):
            pairs = [" 0 0"] * 6
            pairs[k] = " 1 0"
            self.line_refused(14, "state" + "".join(pairs))
            pairs[k] = f" {-10 ** 60} 0"
            self.line_refused(14, "state" + "".join(pairs))
            pairs[k] = f" {1 - 10 ** 60} {10 ** 60 - 1}"
            self.line_taken(14, "state" + "".join(pairs))


class AnotherWayTest(ReadingTest):
    def test_against_another_way_to_find_the_line(self):
        self.another_way(5)

    def test_the_error(self):
        with self.assertRaises(OrreryError):
            read_certificate("orrery\n")


if __name__ == "__main__":
    unittest.main()
