"""Points [47] and [48]: the differences of contents."""

import random
import unittest

from orrery.book.differences import differences
from orrery.book.edits import apply_edit
from orrery.data import Body, Burn, Contents, Sighting, Site, contents_data
from orrery.errors import OrreryError
from orrery.ways.courses import course

from worlds import STILL, a_craft, cube, orbiter


def burns(*spans):
    return [Burn(span[0], span[1], cube(0, 0, 0, (*span, 0)[2])) for span in spans]


def seen(*ticks):
    return [Sighting(*(at if isinstance(at, tuple) else (at, STILL))) for at in ticks]


def craft(name="a", start=5, place=STILL, speed=STILL, drift=0, burned=(), sighted=()):
    return a_craft(name, start, place, speed, drift, burned, sighted)


def world(crafts=(), sites=(), mu=1, oblateness=0, turn=(1, 0, 1), stride=1, fineness=0):
    return Contents(Body(mu, oblateness, turn), stride, fineness, crafts, sites)


class DifferencesTest(unittest.TestCase):
    def check(self, before, after, touched=(), dropped=(), sites=(), sites_dropped=()):
        old = contents_data(before), contents_data(after)
        told = differences(before, after)
        self.assertIsInstance(told, tuple)
        self.assertEqual(told, (list(touched), list(dropped), list(sites), list(sites_dropped)))
        self.assertEqual((contents_data(before), contents_data(after)), old)

    def touched(self, first, second, tick):
        """The tick from which on a craft is touched that is changed from one to the other, or back."""
        touched = [] if tick is None else [("a", tick)]
        self.check(world([first]), world([second]), touched)
        self.check(world([second]), world([first]), touched)
        aside = craft("b", 0)
        self.check(world([first, aside]), world([second, aside]), touched)


class CraftsTest(DifferencesTest):
    def test_the_same_twice(self):
        held = world([craft("a"), orbiter("b")], [Site("s", (1, 2, 3))])
        self.check(held, held)
        self.check(world([orbiter()], [Site("s", (1, 2, 3))]), world([orbiter()], [Site("s", (1, 2, 3))]))
        self.check(world(), world())

    def test_added_and_dropped(self):
        one, two, three = craft("a", 5), craft("b", 7), craft("c", 9)
        self.check(world(), world([one, two]), [("a", 5), ("b", 7)])
        self.check(world([one, three]), world([one, two, three]), [("b", 7)])
        self.check(world([one, two, three]), world([two]), [], ["a", "c"])
        self.check(world([one, two]), world([two, three]), [("c", 9)], ["a"])
        self.check(world([one]), world([three]), [("c", 9)], ["a"])

    def test_start(self):
        self.touched(craft(start=5), craft(start=9), 5)
        self.touched(craft(start=5, burned=burns((20, 21))), craft(start=9), 5)

    def test_place_speed_and_drift(self):
        self.touched(craft(), craft(place=cube(0, 0, 0, 1)), 5)
        self.touched(craft(), craft(speed=((0, 0), (0, 0), (0, 1))), 5)
        self.touched(craft(), craft(drift=1), 5)
        self.touched(craft(start=7), craft(start=6, drift=1), 6)

    def test_settings(self):
        one, two = craft("a", 5), craft("b", 7, burned=burns((9, 10)))
        both = [("a", 5), ("b", 7)]
        for other in [world([one, two], mu=2), world([one, two], oblateness=1), world([one, two], stride=2),
                      world([one, two], fineness=1), world([one, two], turn=(3, 4, 5))]:
            self.check(world([one, two]), other, both)
            self.check(other, world([one, two]), both)
        # Each other craft from the lesser start on; one that is new from its own start on.
        late = craft("a", 6, burned=burns((9, 10)))
        self.check(world([one]), world([late, two], mu=2), [("a", 5), ("b", 7)])
        self.check(world([late, craft("c")]), world([one, two], stride=9), [("a", 5), ("b", 7)], ["c"])


class RowsTest(DifferencesTest):
    def test_burns_added_and_dropped(self):
        three = burns((10, 12), (20, 22), (30, 32))
        self.touched(craft(), craft(burned=three), 10)
        self.touched(craft(burned=three[1:]), craft(burned=three), 10)
        self.touched(craft(burned=three[:1] + three[2:]), craft(burned=three), 20)
        self.touched(craft(burned=three[:2]), craft(burned=three), 30)
        self.touched(craft(burned=three[:1]), craft(burned=three), 20)
        self.touched(craft(burned=three[2:]), craft(burned=three), 10)

    def test_burns_replaced(self):
        three = [(10, 12), (20, 22), (30, 32)]
        for number in range(3):
            for other in ((three[number][0], three[number][1] + 1), (*three[number], 1)):
                changed = three[:number] + [other] + three[number + 1:]
                self.touched(craft(burned=burns(*three)), craft(burned=burns(*changed)), three[number][0])
            later = (three[number][0] + 1, three[number][1])
            changed = three[:number] + [later] + three[number + 1:]
            self.touched(craft(burned=burns(*three)), craft(burned=burns(*changed)), three[number][0])

    def test_only_the_first_two_that_differ(self):
        self.touched(craft(burned=burns((10, 12), (30, 31))), craft(burned=burns((20, 22), (30, 31))), 10)
        self.touched(craft(burned=burns((10, 12), (30, 31), (40, 41))),
                     craft(burned=burns((10, 12), (15, 16), (30, 31))), 15)

    def test_sightings_added_and_dropped(self):
        three = seen(5, 20, 30)
        self.touched(craft(), craft(sighted=three), 5)
        self.touched(craft(sighted=three[1:]), craft(sighted=three), 5)
        self.touched(craft(sighted=[three[0], three[2]]), craft(sighted=three), 20)
        self.touched(craft(sighted=three[:2]), craft(sighted=three), 30)

    def test_sightings_replaced(self):
        for number, at in enumerate((5, 20, 30)):
            ticks = [5, 20, 30]
            ticks[number] = (at, cube(0, 0, 0, 1))
            self.touched(craft(sighted=seen(5, 20, 30)), craft(sighted=seen(*ticks)), at)
            ticks[number] = at + 2
            self.touched(craft(sighted=seen(5, 20, 30)), craft(sighted=seen(*ticks)), at)

    def test_both_lists_at_once(self):
        first = craft(burned=burns((10, 12), (20, 22)), sighted=seen(7, 15))
        self.touched(first, craft(burned=burns((10, 12), (20, 23)), sighted=seen(7, 16)), 15)
        self.touched(first, craft(burned=burns((10, 13), (20, 22)), sighted=seen(7, 16)), 10)
        self.touched(first, craft(burned=burns((10, 12)), sighted=seen(7)), 15)
        self.touched(first, craft(burned=burns((10, 12)), sighted=seen(7, 15, 40)), 20)
        self.touched(first, craft(burned=burns((10, 12), (20, 22)), sighted=seen(7, 15)), None)

    def test_rows_ahead_of_the_start_do_not_count_with_another_start(self):
        self.touched(craft(start=9, burned=burns((10, 11))), craft(start=8, burned=burns((10, 11))), 8)
        self.touched(craft(drift=1, burned=burns((10, 11))), craft(burned=burns((20, 21))), 5)


class SitesTest(DifferencesTest):
    def test_added_moved_and_dropped(self):
        one, two, three = Site("a", (1, 2, 3)), Site("b", (1, 2, 3)), Site("c", (0, 0, 1))
        self.check(world([], [one]), world([], [one, two, three]), sites=["b", "c"])
        self.check(world([], [one, two, three]), world([], [two]), sites_dropped=["a", "c"])
        for place in [(0, 2, 3), (1, 0, 3), (1, 2, 0)]:
            self.check(world([], [one, two]), world([], [one, Site("b", place)]), sites=["b"])
        self.check(world([], [one, two]), world([], [Site("a", (9, 9, 9)), three]), sites=["a", "c"],
                   sites_dropped=["b"])

    def test_another_turn(self):
        one, two, three = Site("a", (1, 2, 3)), Site("b", (1, 2, 3)), Site("c", (0, 0, 1))
        self.check(world([], [one, two]), world([], [one, two], turn=(3, 4, 5)), sites=["a", "b"])
        self.check(world([], [one, two]), world([], [two, three], turn=(3, 4, 5)), sites=["b", "c"],
                   sites_dropped=["a"])

    def test_other_settings_leave_the_sites_alone(self):
        one = Site("a", (1, 2, 3))
        for other in [world([], [one], mu=2), world([], [one], oblateness=1), world([], [one], stride=2),
                      world([], [one], fineness=1)]:
            self.check(world([], [one]), other)

    def test_crafts_and_sites_of_one_name(self):
        self.check(world([craft("a")]), world([], [Site("a", (1, 2, 3))]), [], ["a"], ["a"])


class CoursesTest(unittest.TestCase):
    def pieces(self, held, name):
        one = [craft for craft in held.crafts if craft.name == name][0]
        return [(piece.begin, piece.end, piece.parts) for piece in course(held, one, 30).pieces]

    def test_pieces_that_end_before_the_tick_are_the_same(self):
        rng = random.Random(17)
        held = Contents(Body(10 ** 9, 0, (1, 0, 1)), 4, 1, [orbiter("a", 3), orbiter("b", 0)])
        touched = 0
        for _ in range(60):
            name, at = rng.choice("ab"), rng.randrange(3, 28)
            edit = rng.choice([
                ("add burn", name, Burn(at, at + rng.randint(1, 4), cube(5, 0, 0, 1))),
                ("add sighting", name, Sighting(at, cube(0, 0, 0, 20000))),
                ("drop burn", name, at), ("drop sighting", name, at), ("set drift", name, rng.randrange(3)),
            ])
            try:
                after = apply_edit(held, edit)
            except OrreryError:
                continue
            ticks = dict(differences(held, after)[0])
            for other in "ab":
                bound = ticks.get(other, 10 ** 9)
                told = [[piece for piece in self.pieces(one, other) if piece[1] < bound] for one in (held, after)]
                self.assertEqual(told[0], told[1], edit)
            touched += len(ticks)
            held = after
        self.assertGreater(touched, 10)


if __name__ == "__main__":
    unittest.main()
