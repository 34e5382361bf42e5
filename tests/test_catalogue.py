"""Point [49]: catalogues."""

import random
import unittest

from orrery.book.catalogue import Catalogue
from orrery.book.differences import differences
from orrery.book.edits import apply_edit
from orrery.data import Burn, Contents, Site, contents_data
from orrery.errors import BadArgument, NoSuchCraft, OrreryError, TooMany

from worlds import STILL, a_body, a_craft

NOTHING = ([], [], [], [])


class CatalogueTest(unittest.TestCase):
    def setUp(self):
        self.held = Contents(a_body(), 1, 0, [a_craft("a", 5)], [Site("s", (1, 2, 3))])
        self.catalogue = Catalogue(self.held)

    def test_a_new_one(self):
        self.assertIs(self.catalogue.contents, self.held)
        self.assertEqual(self.catalogue.version, 0)
        self.assertIsNone(self.catalogue.undo())
        self.assertIs(self.catalogue.contents, self.held)
        self.assertEqual(self.catalogue.version, 0)

    def test_edits(self):
        told = self.catalogue.edit(("add craft", a_craft("b", 7)))
        self.assertEqual(told, ([("b", 7)], [], [], []))
        self.assertEqual([craft.name for craft in self.catalogue.contents.crafts], ["a", "b"])
        self.assertEqual(self.catalogue.version, 1)
        self.assertEqual(self.catalogue.edit(("drop site", "s")), ([], [], [], ["s"]))
        self.assertEqual(self.catalogue.edit(("add burn", "a", Burn(9, 10, STILL))), ([("a", 9)], [], [], []))
        self.assertEqual(self.catalogue.edit(("set stride", 7)), ([("a", 5), ("b", 7)], [], [], []))
        self.assertEqual(self.catalogue.version, 4)
        self.assertEqual(len(self.held.crafts), 1)

    def test_undo(self):
        self.catalogue.edit(("add craft", a_craft("b", 7)))
        middle = contents_data(self.catalogue.contents)
        self.catalogue.edit(("drop craft", "a"))
        self.assertEqual(self.catalogue.undo(), ([("a", 5)], [], [], []))
        self.assertEqual((contents_data(self.catalogue.contents), self.catalogue.version), (middle, 3))
        self.assertEqual(self.catalogue.undo(), ([], ["b"], [], []))
        self.assertEqual(contents_data(self.catalogue.contents), contents_data(self.held))
        self.assertEqual(self.catalogue.version, 4)
        self.assertIsNone(self.catalogue.undo())
        self.assertEqual(self.catalogue.version, 4)

    def test_an_undo_cannot_be_undone(self):
        self.catalogue.edit(("set stride", 2))
        self.catalogue.edit(("set stride", 3))
        self.catalogue.undo()
        self.catalogue.edit(("set stride", 4))
        self.catalogue.undo()
        self.assertEqual(self.catalogue.contents.stride, 2)
        self.catalogue.undo()
        self.assertEqual((self.catalogue.contents.stride, self.catalogue.version), (1, 6))
        self.assertIsNone(self.catalogue.undo())

    def test_refused_edits(self):
        self.catalogue.edit(("set stride", 2))
        before = self.catalogue.contents
        for kind, edit in [(BadArgument, ("set stride", 0)), (BadArgument, ()), (NoSuchCraft, ("drop craft", "x"))]:
            with self.assertRaises(kind):
                self.catalogue.edit(edit)
            self.assertIs(self.catalogue.contents, before)
            self.assertEqual(self.catalogue.version, 1)
        self.catalogue.undo()
        self.assertEqual(self.catalogue.contents.stride, 1)
        self.assertIsNone(self.catalogue.undo())

    def test_edits_that_set_the_same_again(self):
        for edit in [("set stride", 1), ("set fineness", 0), ("set body", a_body()), ("set drift", "a", 0),
                     ("add craft", a_craft("a", 5)), ("add site", Site("s", (1, 2, 3)))]:
            self.assertEqual(self.catalogue.edit(edit), NOTHING)
        self.assertEqual(self.catalogue.version, 6)
        self.assertEqual(contents_data(self.catalogue.contents), contents_data(self.held))
        for _ in range(6):
            self.assertEqual(self.catalogue.undo(), NOTHING)
        self.assertIsNone(self.catalogue.undo())
        self.assertEqual(self.catalogue.version, 12)

    def strides_back(self, many):
        """The strides that undoing leads back to behind so many edits from stride 1 on."""
        catalogue = Catalogue(self.held)
        for number in range(many):
            catalogue.edit(("set stride", number + 2))
        strides = []
        while catalogue.undo() is not None:
            strides.append(catalogue.contents.stride)
        self.assertEqual(catalogue.version, many + len(strides))
        return strides

    def test_a_hundred_earlier_contents(self):
        self.assertEqual(self.strides_back(99), list(range(99, 0, -1)))
        self.assertEqual(self.strides_back(100), list(range(100, 0, -1)))
        self.assertEqual(self.strides_back(101), list(range(101, 1, -1)))
        self.assertEqual(self.strides_back(250), list(range(250, 150, -1)))

    def test_room_for_earlier_contents_behind_an_undo(self):
        for number in range(150):
            self.catalogue.edit(("set stride", number + 2))
        for _ in range(30):
            self.catalogue.undo()
        self.assertEqual(self.catalogue.contents.stride, 121)
        for number in range(40):
            self.catalogue.edit(("set stride", number + 500))
        undone = 0
        while self.catalogue.undo() is not None:
            undone += 1
        self.assertEqual((undone, self.catalogue.contents.stride), (100, 61))

    def test_two_catalogues_of_the_same_contents(self):
        other = Catalogue(self.held)
        self.catalogue.edit(("set stride", 9))
        self.assertEqual((other.contents.stride, other.version), (1, 0))
        self.assertIsNone(other.undo())

    def test_a_returned_list_is_the_callers(self):
        self.catalogue.edit(("add craft", a_craft("b", 7)))[0].clear()
        self.assertEqual(self.catalogue.undo(), ([], ["b"], [], []))

    def test_the_differences_are_those_of_before_and_after(self):
        rng = random.Random(9)
        history = []
        for _ in range(200):
            before = self.catalogue.contents
            name = rng.choice("abc")
            edit = rng.choice([
                ("add craft", a_craft(name, rng.randrange(9))), ("drop craft", name),
                ("set drift", name, rng.randrange(3)),
                ("add burn", name, Burn(rng.randrange(30), 30 + rng.randrange(9), STILL)),
                ("drop burn", name, rng.randrange(30)),
                ("add site", Site(name, (1, 2, rng.randrange(3)))), ("drop site", name),
                ("set fineness", rng.randrange(3)),
                None,
            ])
            version = self.catalogue.version
            if edit is None:
                told = self.catalogue.undo()
                if not history:
                    self.assertIsNone(told)
                    continue
                self.assertIs(self.catalogue.contents, history.pop())
            else:
                try:
                    told = self.catalogue.edit(edit)
                except OrreryError as error:
                    self.assertNotIsInstance(error, TooMany)
                    self.assertIs(self.catalogue.contents, before)
                    self.assertEqual(self.catalogue.version, version)
                    continue
                history.append(before)
                self.assertEqual(contents_data(self.catalogue.contents), contents_data(apply_edit(before, edit)))
            self.assertEqual(told, differences(before, self.catalogue.contents))
            self.assertEqual(self.catalogue.version, version + 1)
        self.assertGreater(self.catalogue.version, 50)


if __name__ == "__main__":
    unittest.main()
