"""Points [50] and [51]: saved contents, and which line of other texts is at fault."""

import unittest

from orrery.book.edits import apply_edit
from orrery.book.saving import read_saved, saved_text
from orrery.data import Body, Burn, Contents, Sighting, Site, contents_data
from orrery.errors import OrreryError

from texts import ReaderTest, joined
from worlds import STILL, a_body, a_craft, cube

LINES = [
    "orrery contents",                           # 1
    "body 1000 50 -4 3 5",                       # 2
    "stride 20",                                 # 3
    "fineness 2",                                # 4
    "craft _x 0 0",                              # 5
    "place 0 0 0 0 0 0",                         # 6
    "speed 0 0 0 0 0 0",                         # 7
    "craft a_0 7 40",                            # 8
    "place -12 -3 0 5 8 8",                      # 9
    "speed 1 1 2 2 -3 3",                        # 10
    "burn 7 9 -1 2 3 4 -6 -5",                   # 11
    "burn 9 10 -1 2 3 4 -6 -5",                  # 12
    "burn 20 25 0 0 0 0 0 0",                    # 13
    "seen 7 -2 0 -1 7 9 9",                      # 14
    "seen 9 0 1 -2 -1 7 9",                      # 15
    "craft b 100000 1000000000000",              # 16
    "place 1 2 3 4 5 6",                         # 17
    "speed 1 2 3 4 5 6",                         # 18
    "seen 100000 0 0 0 0 0 0",                   # 19
    "site a 0 -7 5",                             # 20
    "site a0 1000000000000000 0 0",              # 21
]
STILL_LINES = ["place 0 0 0 0 0 0", "speed 0 0 0 0 0 0"]
TEXT = joined(LINES)


def built(*edits):
    held = Contents(a_body(), 1, 0)
    for edit in edits:
        held = apply_edit(held, edit)
    return held


class SavingTest(ReaderTest):
    kind, lines = "contents", LINES

    def read(self, text):
        return read_saved(text)

    def write(self, told):
        return saved_text(told)


class TextTest(SavingTest):
    def test_line_by_line(self):
        burns = [Burn(7, 9, ((-1, 2), (3, 4), (-6, -5))), Burn(9, 100000, cube(0, 0, 0, 10 ** 12))]
        sightings = [Sighting(7, cube(0, 0, 0, 10 ** 15)), Sighting(8, ((0, 1), (-2, -1), (7, 9)))]
        first = a_craft("a_0", 7, ((-12, -3), (0, 5), (10 ** 15, 10 ** 15)), ((1, 1), (2, 2), (-3, 3)), 40, burns,
                        sightings)
        sites = [Site("pole", (0, 0, -10 ** 15)), Site("port", (-1, 2, 3))]
        held = Contents(Body(10 ** 30, 0, (-4, 3, 5)), 1000, 6, [first, a_craft("b")], sites)
        self.assertEqual(saved_text(held), (
            "orrery contents\n"
            "body 1000000000000000000000000000000 0 -4 3 5\n"
            "stride 1000\n"
            "fineness 6\n"
            "craft a_0 7 40\n"
            "place -12 -3 0 5 1000000000000000 1000000000000000\n"
            "speed 1 1 2 2 -3 3\n"
            "burn 7 9 -1 2 3 4 -6 -5\n"
            "burn 9 100000" + " -1000000000000 1000000000000" * 3 + "\n"
            "seen 7" + " -1000000000000000 1000000000000000" * 3 + "\n"
            "seen 8 0 1 -2 -1 7 9\n"
            "craft b 0 0\n"
            "place 0 0 0 0 0 0\n"
            "speed 0 0 0 0 0 0\n"
            "site pole 0 0 -1000000000000000\n"
            "site port -1 2 3\n"
        ))

    def test_without_crafts_and_sites(self):
        text = "orrery contents\nbody 5 6 1 0 1\nstride 1\nfineness 0\n"
        self.assertEqual(saved_text(Contents(Body(5, 6, (1, 0, 1)), 1, 0)), text)
        self.assertEqual(contents_data(read_saved(text)), ((5, 6, (1, 0, 1)), 1, 0, (), ()))
        self.taken(text + "site a 0 0 1\n")


class ReadBackTest(SavingTest):
    def check(self, held):
        told = read_saved(saved_text(held))
        self.assertEqual(contents_data(told), contents_data(held))
        self.assertEqual(saved_text(told), saved_text(held))

    def test_what_edits_made(self):
        adds = [("add craft", a_craft(name, 3)) for name in ("b", "a", "_", "a0", "0")]
        burns = [("add burn", "a", Burn(at, at + 1, cube(at, 0, 0, 3))) for at in (9, 3, 5, 4)]
        sightings = [("add sighting", "b", Sighting(at, cube(at, 0, 0, 3))) for at in (9, 3, 5)]
        sites = [("add site", Site(name, (1, -2, 3))) for name in ("b", "a", "_")]
        self.check(built())
        self.check(built(*adds))
        self.check(built(*sites))
        self.check(built(*adds, *burns, *sightings, *sites, ("set stride", 1000), ("set fineness", 6)))
        self.check(built(*adds, *burns, *sites, ("drop craft", "a"), ("drop site", "b"),
                         ("set body", Body(7, 8, (0, 1, 1)))))

    def test_as_many_as_there_may_be(self):
        edits = [("add craft", a_craft(f"c{k}")) for k in range(20)]
        edits += [("add burn", "c7", Burn(2 * k, 2 * k + 2, STILL)) for k in range(20)]
        edits += [("add sighting", "c7", Sighting(k, STILL)) for k in range(20)]
        edits += [("add site", Site(f"s{k}", (1, 2, 3))) for k in range(10)]
        self.check(built(*edits))

    def test_the_text_of_this_file(self):
        self.taken(TEXT)
        self.assertEqual(contents_data(read_saved(TEXT)), (
            (1000, 50, (-4, 3, 5)), 20, 2, (
                ("_x", 0, STILL, STILL, 0, (), ()),
                ("a_0", 7, ((-12, -3), (0, 5), (8, 8)), ((1, 1), (2, 2), (-3, 3)), 40,
                 ((7, 9, ((-1, 2), (3, 4), (-6, -5))), (9, 10, ((-1, 2), (3, 4), (-6, -5))), (20, 25, STILL)),
                 ((7, ((-2, 0), (-1, 7), (9, 9))), (9, ((0, 1), (-2, -1), (7, 9))))),
                ("b", 100000, ((1, 2), (3, 4), (5, 6)), ((1, 2), (3, 4), (5, 6)), 10 ** 12, (), ((100000, STILL),)),
            ), (("a", (0, -7, 5)), ("a0", (10 ** 15, 0, 0))),
        ))


class FormTest(SavingTest):
    def test_each_line_misshapen(self):
        self.faults_of_form()

    def test_the_first_line(self):
        self.line_refused(1, "orrery certificate", "orrery", "contents", "orrery Contents", "orrery contents 1")

    def test_texts_that_end_early(self):
        self.refused("", 1)
        for many in range(1, len(LINES)):
            text = joined(LINES[:many])
            if many in (1, 2, 3, 5, 6, 8, 9, 16, 17):
                self.refused(text, many + 1)
            else:
                self.taken(text)

    def test_texts_that_end_within_a_line(self):
        self.ends_within_a_line()

    def test_more_at_the_end(self):
        for more in ("\n", "x", "x\n", " ", "\r\n", "craft c 0 0\n", "seen 100001 0 0 0 0 0 0\n", "site\n",
                     "stride 20\n",
                     "site a0 0 0 1\n", "site b 0 0 0\n", "orrery contents\n", "claim 0\n"):
            self.refused(TEXT + more, 22)
        self.refused(TEXT + "site b 0 0 1", 22)
        self.taken(TEXT + "site b 0 0 1\n")
        self.refused(TEXT + "site b 0 0 1\n\n", 23)

    def test_other_line_ends(self):
        self.other_line_ends()


class OrderTest(SavingTest):
    def test_lines_left_out(self):
        for number in (1, 2, 3, 4, 6, 7, 9, 10, 17, 18):
            self.refused(joined(LINES[:number - 1] + LINES[number:]), number)
        for number in (5, 8, 16):
            self.refused(joined(LINES[:number - 1] + LINES[number:]), number)
        for number in (11, 12, 13, 14, 15, 19, 20, 21):
            self.taken(joined(LINES[:number - 1] + LINES[number:]))

    def test_lines_said_twice(self):
        for number in range(1, len(LINES) + 1):
            self.refused(joined(LINES[:number] + LINES[number - 1:]), number + 1)

    def test_crafts_and_sites_in_another_order(self):
        one, two, three, sites = LINES[4:7], LINES[7:15], LINES[15:19], LINES[19:]
        self.refused(joined(LINES[:4] + two + one + three + sites), 13)
        self.refused(joined(LINES[:4] + one + three + two + sites), 12)
        self.refused(joined(LINES[:4] + one + one + two + three + sites), 8)
        self.refused(joined(LINES[:4] + one + two + sites + three), 18)
        self.refused(joined(LINES[:4] + sites + one), 7)
        self.refused(joined(LINES[:19] + [LINES[20], LINES[19]]), 21)
        self.refused(joined(LINES[:19] + [LINES[20], LINES[20]]), 21)
        self.taken(joined(LINES[:4] + one + three + sites))

    def test_the_order_of_names(self):
        names = ["0", "9", "9a", "_", "__", "a", "a0", "a_", "aa", "b"]
        crafts = [line for name in names for line in [f"craft {name} 0 0"] + STILL_LINES]
        sites = [f"site {name} 0 0 1" for name in names]
        self.taken(joined(LINES[:4] + crafts + sites))
        for first, second in zip(names, names[1:]):
            self.refused(joined(LINES[:4] + [f"craft {second} 0 0"] + STILL_LINES + [f"craft {first} 0 0"]), 8)
            self.refused(joined(LINES[:4] + [f"site {second} 0 0 1", f"site {first} 0 0 1"]), 6)

    def test_rows_in_another_order(self):
        still = " 0 0 0 0 0 0"
        self.refused(joined(LINES[:10] + [LINES[11], LINES[10]] + LINES[12:]), 12)
        self.refused(joined(LINES[:13] + [LINES[14], LINES[13]] + LINES[15:]), 15)
        self.refused(joined(LINES[:12] + [LINES[13], LINES[12]] + LINES[14:]), 14)
        self.line_refused(12, "burn 8 10" + still, "burn 7 10" + still, "burn 6 7" + still, "burn 0 100" + still)
        self.line_refused(11, "burn 6 9" + still, "burn 0 1" + still)
        self.refused(self.with_line(11, "burn 7 10" + still), 12)
        self.line_refused(15, "seen 7" + still, "seen 6" + still)
        self.line_refused(14, "seen 6" + still)
        self.line_refused(19, "seen 99999" + still)
        self.line_taken(15, "seen 8" + still, "seen 100000" + still)
        # Without a burn that ends there, one may begin earlier.
        self.line_taken(11, "burn 8 9" + still)


class BoundsTest(SavingTest):
    def test_body_stride_and_fineness(self):
        self.line_taken(2, "body 1 0 1 0 1", f"body {10 ** 30} {10 ** 30} 0 {-10 ** 6} {10 ** 6}")
        self.line_refused(2, "body 0 0 1 0 1", f"body {10 ** 30 + 1} 0 1 0 1", "body 1 -1 1 0 1", "body 1 0 1 1 1")
        self.line_refused(2, f"body 1 {10 ** 30 + 1} 1 0 1", f"body 1 0 {10 ** 6 + 1} 0 {10 ** 6 + 1}",
                          "body 1 0 0 0 0")
        self.line_taken(3, "stride 1", "stride 1000")
        self.line_refused(3, "stride 0", "stride 1001", "stride -1")
        self.line_taken(4, "fineness 0", "fineness 6")
        self.line_refused(4, "fineness -1", "fineness 7")

    def test_craft(self):
        self.line_taken(8, "craft a 0 0", "craft abcdefghijkl 7 1000000000000", "craft azzzzzzzzzzz 7 40")
        self.line_refused(8, "craft abcdefghijklm 7 40", "craft A 7 40", "craft a- 7 40", "craft \u00e4 7 40")
        self.line_refused(8, "craft a -1 40", "craft a 100001 40", "craft a 7 -1", "craft a 7 1000000000001")
        self.refused(self.with_line(8, "craft a 8 40"), 11)
        self.refused(joined(LINES[:7] + ["craft a 8 40"] + LINES[8:10] + LINES[13:]), 11)

    def test_boxes(self):
        self.box_bounds(9, "place", 10 ** 15)
        self.box_bounds(10, "speed", 10 ** 15)
        self.box_bounds(13, "burn 20 100000", 10 ** 12)
        self.box_bounds(15, "seen 9", 10 ** 15)

    def test_ticks(self):
        still = " 0 0 0 0 0 0"
        self.line_refused(13, "burn 20 20" + still, "burn 25 20" + still, "burn 20 100001" + still,
                          "burn -1 20" + still)
        self.line_refused(13, "burn 100000 100000" + still)
        self.line_refused(15, "seen 100001" + still, "seen -1" + still)

    def test_sites(self):
        most = 10 ** 15
        self.line_taken(21, f"site b {most} {-most} {most}", "site zzzzzzzzzzzz 0 0 1", "site b 0 -1 0")
        self.line_refused(21, "site b 0 0 0", f"site b {most + 1} 0 0", f"site b 0 {-most - 1} 0",
                          f"site b 0 0 {most + 1}")
        self.line_refused(21, "site B 0 0 1", "site abcdefghijklm 0 0 1", "site b- 0 0 1", "site a 0 0 1")

    def test_too_many(self):
        crafts = [line for k in range(21) for line in [f"craft c{k:02} 0 0"] + STILL_LINES]
        self.taken(joined(LINES[:4] + crafts[:60]))
        self.refused(joined(LINES[:4] + crafts), 65)
        burns = [f"burn {k} {k + 1} 0 0 0 0 0 0" for k in range(21)]
        sightings = [f"seen {k} 0 0 0 0 0 0" for k in range(21)]
        self.taken(joined(LINES[:7] + burns[:20] + sightings[:20]))
        self.refused(joined(LINES[:7] + burns + sightings), 28)
        self.refused(joined(LINES[:7] + burns[:20] + sightings), 48)
        self.refused(joined(LINES[:7] + sightings), 28)
        # Each craft has room for as many of its own.
        self.taken(joined(LINES[:7] + burns[:20] + ["craft b 0 0"] + STILL_LINES + burns[:20]))
        sites = [f"site s{k:02} 0 0 1" for k in range(11)]
        self.taken(joined(LINES[:4] + sites[:10]))
        self.refused(joined(LINES[:4] + sites), 15)


class AnotherWayTest(SavingTest):
    def test_against_another_way_to_find_the_line(self):
        self.another_way(6)

    def test_the_error(self):
        with self.assertRaises(OrreryError):
            read_saved("orrery\n")


if __name__ == "__main__":
    unittest.main()
