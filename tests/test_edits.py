"""Points [45] and [46]: edits."""

import random
import unittest

from orrery.book.edits import apply_edit
from orrery.data import Body, Burn, Contents, Craft, Sighting, Site, contents_data, craft_data
from orrery.errors import (
    BadArgument, BeforeStart, BurnsOverlap, NoSuchBurn, NoSuchCraft, NoSuchSighting, NoSuchSite, TooMany,
)

from worlds import STILL, a_body, a_craft, cube


def a_burn(begin, end, size=0):
    return Burn(begin, end, cube(0, 0, 0, size))


def a_sighting(at, size=0):
    return Sighting(at, cube(0, 0, 0, size))


def world(crafts=(), sites=(), stride=5, fineness=2):
    return Contents(a_body(), stride, fineness, crafts, sites)


def names(rows):
    return [row.name for row in rows]


class EditTest(unittest.TestCase):
    def edited(self, held, *edits):
        """The contents behind edits; what is edited may not change."""
        for edit in edits:
            before, crafts = contents_data(held), held.crafts
            after = apply_edit(held, edit)
            self.assertIsNot(after, held)
            self.assertEqual(contents_data(held), before)
            self.assertIs(held.crafts, crafts)
            held = after
        return held

    def refused(self, kind, held, edit, name=None):
        before, crafts = contents_data(held), [craft_data(craft) for craft in held.crafts]
        with self.assertRaises(kind) as caught:
            apply_edit(held, edit)
        self.assertIs(caught.exception.__class__, kind)
        if name is not None:
            self.assertEqual(caught.exception.name, name)
        self.assertEqual(contents_data(held), before)
        self.assertEqual([craft_data(craft) for craft in held.crafts], crafts)


class WordTest(EditTest):
    def test_other_words(self):
        held = world([a_craft("a")])
        for edit in [(), ("",), ("set",), ("add",), ("set bodies", a_body()), ("Set stride", 5), (" set stride", 5),
                     ("set_stride", 5), ("drop body",), ("a", "b", "c", "d"), (5,), (None, 5), (("set stride", 5),),
                     ("drop craft", "a", "b"), (5, "set stride"), (["set stride"], 5), ({}, 5)]:
            self.refused(BadArgument, held, edit, "edit")

    def test_one_part_more_or_fewer(self):
        craft, site = a_craft("a"), Site("s", (1, 2, 3))
        held = world([craft], [site])
        for edit in [("set body", a_body()), ("set stride", 0), ("set fineness", -1), ("add craft", craft),
                     ("drop craft", "x"), ("set drift", "x", -1), ("add burn", "x", a_burn(1, 2)),
                     ("drop burn", "x", 1),
                     ("add sighting", "x", a_sighting(1)), ("drop sighting", "x", 1), ("add site", site),
                     ("drop site", "x")]:
            self.refused(BadArgument, held, edit[:-1], "edit")
            self.refused(BadArgument, held, edit[:1], "edit")
            self.refused(BadArgument, held, edit + (1,), "edit")
            self.refused(BadArgument, held, edit + (None,), "edit")


class SettingsTest(EditTest):
    def setUp(self):
        craft = a_craft("a", 0, STILL, STILL, 3, [a_burn(1, 2)], [a_sighting(4)])
        self.held = world([craft], [Site("s", (1, 2, 3))])

    def test_body(self):
        body = Body(7, 8, (3, 4, 5))
        after = self.edited(self.held, ("set body", body))
        self.assertEqual(contents_data(after), ((7, 8, (3, 4, 5)), *contents_data(self.held)[1:]))

    def test_stride_and_fineness(self):
        old = contents_data(self.held)
        for number in (1, 5, 1000):
            self.assertEqual(contents_data(self.edited(self.held, ("set stride", number))), (old[0], number, *old[2:]))
        for number in (0, 2, 6):
            after = self.edited(self.held, ("set fineness", number))
            self.assertEqual(contents_data(after), (*old[:2], number, *old[3:]))
        for number in (0, -1, 1001):
            self.refused(BadArgument, self.held, ("set stride", number), "stride")
        for number in (-1, 7):
            self.refused(BadArgument, self.held, ("set fineness", number), "fineness")

    def test_drift(self):
        for number in (0, 3, 10 ** 12):
            after = self.edited(self.held, ("set drift", "a", number))
            old = craft_data(self.held.crafts[0])
            self.assertEqual(craft_data(after.crafts[0]), (*old[:4], number, *old[5:]))
            self.assertEqual(contents_data(after)[4], contents_data(self.held)[4])
        for number in (-1, 10 ** 12 + 1):
            self.refused(BadArgument, self.held, ("set drift", "a", number), "drift")
        for number in (3, -1):
            self.refused(NoSuchCraft, self.held, ("set drift", "b", number), "b")


class CraftTest(EditTest):
    def test_added_without_its_burns_and_sightings(self):
        craft = a_craft("a", 3, cube(1, 2, 3, 4), cube(5, 6, 7, 8), 9, [a_burn(4, 5)], [a_sighting(6)])
        after = self.edited(world(), ("add craft", craft))
        self.assertEqual([craft_data(one) for one in after.crafts],
                         [("a", 3, cube(1, 2, 3, 4), cube(5, 6, 7, 8), 9, (), ())])
        self.assertEqual((len(craft.burns), len(craft.sightings)), (1, 1))

    def test_one_that_replaces_another_one(self):
        old = a_craft("b", 3, STILL, STILL, 9, [a_burn(4, 5)], [a_sighting(6)])
        held = world([a_craft("a"), old, a_craft("c")])
        after = self.edited(held, ("add craft", a_craft("b", 7, STILL, cube(1, 1, 1, 1), 2, [a_burn(9, 10)])))
        self.assertEqual(names(after.crafts), ["a", "b", "c"])
        self.assertEqual(craft_data(after.crafts[1]), ("b", 7, STILL, cube(1, 1, 1, 1), 2, (), ()))
        again = self.edited(held, ("add craft", old))
        self.assertEqual(craft_data(again.crafts[1]), ("b", 3, STILL, STILL, 9, (), ()))
        self.assertEqual([again.crafts[0], again.crafts[2]], [held.crafts[0], held.crafts[2]])

    def test_the_order_of_names(self):
        ordered = ["0", "9", "9a", "_", "__", "_a", "a", "a0", "a00", "a_", "aa", "ab", "b", "z"]
        rng = random.Random(1)
        for _ in range(20):
            held = world()
            for name in rng.sample(ordered, len(ordered)):
                held = self.edited(held, ("add craft", a_craft(name)))
            self.assertEqual(names(held.crafts), ordered)

    def test_the_twentieth_and_the_next_one(self):
        held = world([a_craft(f"c{k:02}") for k in range(19)])
        full = self.edited(held, ("add craft", a_craft("x")))
        self.assertEqual(len(full.crafts), 20)
        self.refused(TooMany, full, ("add craft", a_craft("y")))
        self.refused(TooMany, full, ("add craft", a_craft("c")))
        after = self.edited(full, ("add craft", a_craft("c07", 50)))
        self.assertEqual((len(after.crafts), after.crafts[7].start), (20, 50))
        room = self.edited(full, ("drop craft", "x"), ("add craft", a_craft("y")))
        self.assertEqual(names(room.crafts)[-2:], ["c18", "y"])

    def test_beyond_the_bound(self):
        held = world([a_craft(f"c{k:02}") for k in range(23)])
        self.refused(TooMany, held, ("add craft", a_craft("x")))
        self.assertEqual(len(self.edited(held, ("add craft", a_craft("c22", 5))).crafts), 23)

    def test_dropped(self):
        held = world([a_craft("a"), a_craft("b"), a_craft("c")], [Site("a", (1, 2, 3))])
        after = self.edited(held, ("drop craft", "b"))
        self.assertEqual((names(after.crafts), names(after.sites)), (["a", "c"], ["a"]))
        self.assertEqual(names(self.edited(held, ("drop craft", "a"), ("drop craft", "c")).crafts), ["b"])
        self.refused(NoSuchCraft, held, ("drop craft", "d"), "d")
        self.refused(NoSuchCraft, after, ("drop craft", "b"), "b")
        self.refused(NoSuchCraft, world([], [Site("s", (1, 2, 3))]), ("drop craft", "s"), "s")


class BurnTest(EditTest):
    def setUp(self):
        self.held = world([a_craft("a", 10), a_craft("b", 0)])

    def burns(self, held, *edits):
        after = self.edited(held, *edits)
        return [(burn.begin, burn.end) for burn in after.crafts[0].burns]

    def test_added_in_the_order_of_their_begins(self):
        edits = [("add burn", "a", a_burn(begin, begin + 2)) for begin in (30, 10, 20, 12)]
        self.assertEqual(self.burns(self.held, *edits), [(10, 12), (12, 14), (20, 22), (30, 32)])
        after = self.edited(self.held, *edits)
        self.assertEqual((names(after.crafts), after.crafts[1].burns), (["a", "b"], ()))

    def test_the_rest_of_the_craft_stays(self):
        craft = a_craft("a", 3, cube(1, 2, 3, 4), cube(5, 6, 7, 8), 9, [a_burn(4, 5)], [a_sighting(6)])
        old = craft_data(craft)
        after = self.edited(world([craft]), ("add burn", "a", a_burn(8, 9, 3)))
        self.assertEqual(craft_data(after.crafts[0]), (*old[:5], (*old[5], (8, 9, cube(0, 0, 0, 3))), old[6]))
        back = self.edited(after, ("drop burn", "a", 8))
        self.assertEqual(craft_data(back.crafts[0]), old)

    def test_touching_and_overlapping(self):
        held = self.edited(self.held, ("add burn", "a", a_burn(20, 30)))
        for begin, end in [(10, 20), (30, 31), (19, 20), (10, 11), (30, 100000)]:
            self.assertEqual(len(self.burns(held, ("add burn", "a", a_burn(begin, end)))), 2)
        for begin, end in [(10, 21), (19, 21), (29, 30), (29, 31), (21, 22), (10, 100), (15, 30), (21, 30)]:
            self.refused(BurnsOverlap, held, ("add burn", "a", a_burn(begin, end)))
        self.assertEqual(len(self.edited(held, ("add burn", "b", a_burn(15, 25))).crafts[1].burns), 1)

    def test_one_with_the_same_begin_is_replaced(self):
        held = self.edited(self.held, ("add burn", "a", a_burn(20, 30)), ("add burn", "a", a_burn(40, 50)))
        self.assertEqual(self.burns(held, ("add burn", "a", a_burn(20, 40))), [(20, 40), (40, 50)])
        self.assertEqual(self.burns(held, ("add burn", "a", a_burn(20, 21))), [(20, 21), (40, 50)])
        after = self.edited(held, ("add burn", "a", a_burn(20, 30, 7)))
        self.assertEqual(after.crafts[0].burns[0].push, cube(0, 0, 0, 7))
        # One with another begin is overlapped, though one with the same begin is replaced.
        self.refused(BurnsOverlap, held, ("add burn", "a", a_burn(20, 41)))
        self.refused(BurnsOverlap, held, ("add burn", "a", a_burn(20, 60)))

    def test_before_the_start(self):
        self.assertEqual(self.burns(self.held, ("add burn", "a", a_burn(10, 11))), [(10, 11)])
        self.refused(BeforeStart, self.held, ("add burn", "a", a_burn(9, 11)))
        self.refused(BeforeStart, self.held, ("add burn", "a", a_burn(0, 1)))

    def test_the_twentieth_and_the_next_one(self):
        burns = [a_burn(begin, begin + 1) for begin in range(10, 48, 2)]
        held = world([a_craft("a", 10, STILL, STILL, 0, burns)])
        full = self.edited(held, ("add burn", "a", a_burn(50, 51)))
        self.assertEqual(len(full.crafts[0].burns), 20)
        self.refused(TooMany, full, ("add burn", "a", a_burn(52, 53)))
        self.refused(TooMany, full, ("add burn", "a", a_burn(11, 12)))
        self.assertEqual(len(self.burns(full, ("add burn", "a", a_burn(12, 14)))), 20)
        room = self.burns(full, ("drop burn", "a", 10), ("add burn", "a", a_burn(52, 53)))
        self.assertEqual((len(room), room[0], room[-1]), (20, (12, 13), (52, 53)))

    def test_the_order_of_the_errors(self):
        burns = [a_burn(begin, begin + 1) for begin in range(10, 50, 2)]
        full = world([a_craft("a", 10, STILL, STILL, 0, burns)])
        self.refused(NoSuchCraft, full, ("add burn", "b", a_burn(0, 100)), "b")
        self.refused(BeforeStart, full, ("add burn", "a", a_burn(0, 100)))
        self.refused(BurnsOverlap, full, ("add burn", "a", a_burn(11, 100)))
        self.refused(TooMany, full, ("add burn", "a", a_burn(50, 100)))

    def test_dropped(self):
        held = self.edited(self.held, ("add burn", "a", a_burn(20, 30)), ("add burn", "a", a_burn(40, 50)))
        self.assertEqual(self.burns(held, ("drop burn", "a", 20)), [(40, 50)])
        self.assertEqual(self.burns(held, ("drop burn", "a", 40)), [(20, 30)])
        for begin in (21, 30, 0, -1, 10 ** 9):
            self.refused(NoSuchBurn, held, ("drop burn", "a", begin))
        self.refused(NoSuchBurn, held, ("drop burn", "b", 20))
        self.refused(NoSuchCraft, held, ("drop burn", "c", 7), "c")


class SightingTest(EditTest):
    def setUp(self):
        self.held = world([a_craft("a", 10, STILL, STILL, 0, [a_burn(10, 20)]), a_craft("b", 0)])

    def ticks(self, held, *edits):
        return [sighting.at for sighting in self.edited(held, *edits).crafts[0].sightings]

    def test_added_in_the_order_of_their_ticks(self):
        edits = [("add sighting", "a", a_sighting(at)) for at in (30, 10, 100000, 20, 11)]
        self.assertEqual(self.ticks(self.held, *edits), [10, 11, 20, 30, 100000])
        after = self.edited(self.held, *edits)
        self.assertEqual((len(after.crafts[0].burns), after.crafts[1].sightings), (1, ()))

    def test_one_at_the_same_tick_is_replaced(self):
        held = self.edited(self.held, *[("add sighting", "a", a_sighting(at)) for at in (10, 20, 30)])
        after = self.edited(held, ("add sighting", "a", a_sighting(20, 7)))
        self.assertEqual([sighting.at for sighting in after.crafts[0].sightings], [10, 20, 30])
        self.assertEqual(after.crafts[0].sightings[1].place, cube(0, 0, 0, 7))

    def test_before_the_start(self):
        self.assertEqual(self.ticks(self.held, ("add sighting", "a", a_sighting(10))), [10])
        self.refused(BeforeStart, self.held, ("add sighting", "a", a_sighting(9)))

    def test_the_twentieth_and_the_next_one(self):
        held = world([a_craft("a", 10, STILL, STILL, 0, [], [a_sighting(at) for at in range(10, 29)])])
        full = self.edited(held, ("add sighting", "a", a_sighting(40)))
        self.assertEqual(len(full.crafts[0].sightings), 20)
        self.refused(TooMany, full, ("add sighting", "a", a_sighting(41)))
        self.assertEqual(len(self.ticks(full, ("add sighting", "a", a_sighting(15, 3)))), 20)
        self.assertEqual(self.ticks(full, ("drop sighting", "a", 10), ("add sighting", "a", a_sighting(41)))[-2:],
                         [40, 41])
        # The order of the errors.
        self.refused(NoSuchCraft, full, ("add sighting", "b", a_sighting(5)), "b")
        self.refused(BeforeStart, full, ("add sighting", "a", a_sighting(5)))

    def test_dropped(self):
        held = self.edited(self.held, *[("add sighting", "a", a_sighting(at)) for at in (10, 20)])
        self.assertEqual(self.ticks(held, ("drop sighting", "a", 10)), [20])
        for at in (11, 0, -1):
            self.refused(NoSuchSighting, held, ("drop sighting", "a", at))
        self.refused(NoSuchSighting, held, ("drop sighting", "b", 10))
        self.refused(NoSuchCraft, held, ("drop sighting", "c", 7), "c")


class SiteTest(EditTest):
    def test_added_in_order_and_replaced(self):
        held = world([a_craft("a")])
        for name in ("b", "a0", "_", "a", "9"):
            held = self.edited(held, ("add site", Site(name, (1, 2, 3))))
        self.assertEqual(names(held.sites), ["9", "_", "a", "a0", "b"])
        after = self.edited(held, ("add site", Site("a", (7, 8, 9))))
        self.assertEqual(names(after.sites), ["9", "_", "a", "a0", "b"])
        self.assertEqual(after.sites[2].place, (7, 8, 9))
        self.assertEqual(names(after.crafts), ["a"])

    def test_the_tenth_and_the_next_one(self):
        held = world([], [Site(f"s{k}", (1, 2, 3)) for k in range(9)])
        full = self.edited(held, ("add site", Site("x", (1, 2, 3))))
        self.assertEqual(len(full.sites), 10)
        self.refused(TooMany, full, ("add site", Site("y", (1, 2, 3))))
        self.assertEqual(len(self.edited(full, ("add site", Site("s5", (0, 0, 1)))).sites), 10)
        self.assertEqual(names(self.edited(full, ("drop site", "x"), ("add site", Site("y", (1, 2, 3)))).sites)[-1],
                         "y")

    def test_dropped(self):
        held = world([a_craft("c")], [Site("a", (1, 2, 3)), Site("b", (1, 2, 3))])
        self.assertEqual(names(self.edited(held, ("drop site", "a")).sites), ["b"])
        self.refused(NoSuchSite, held, ("drop site", "c"), "c")
        self.refused(NoSuchSite, self.edited(held, ("drop site", "a")), ("drop site", "a"), "a")


class OrderTest(EditTest):
    def test_contents_do_not_tell_in_which_order_things_came(self):
        adds = [("add craft", a_craft("a", 3)), ("add craft", a_craft("b", 0))]
        rows = [("add burn", "a", a_burn(begin, begin + 3)) for begin in (3, 6, 20)]
        rows += [("add sighting", "b", a_sighting(at)) for at in (0, 5, 9)]
        rows += [("add site", Site(name, (1, 2, 3))) for name in ("p", "q")]
        rng = random.Random(3)
        wanted = contents_data(self.edited(world(), *adds, *rows))
        for _ in range(10):
            edits = rng.sample(adds, 2) + rng.sample(rows, len(rows))
            self.assertEqual(contents_data(self.edited(world(), *edits)), wanted)

    def test_crafts_handed_in_are_not_kept_with_their_lists(self):
        craft = Craft("a", 0, STILL, STILL, 0)
        held = self.edited(world(), ("add craft", craft), ("add burn", "a", a_burn(1, 2)))
        self.assertEqual((craft.burns, len(held.crafts[0].burns)), ((), 1))


if __name__ == "__main__":
    unittest.main()
