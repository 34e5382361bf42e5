"""The crafts and sites of names: points [43] and [45]."""

import unittest

from orrery.book.names import craft_of, site_of
from orrery.data import Contents, Site
from orrery.errors import NoSuchCraft, NoSuchSite, OrreryError

from worlds import a_body, a_craft

CRAFTS = [a_craft("a"), a_craft("a0"), a_craft("b", 7)]
SITES = [Site("b", (1, 2, 3)), Site("c", (1, 2, 3)), Site("c_", (0, 0, 1))]
HELD = Contents(a_body(), 1, 0, CRAFTS, SITES)


class NamesTest(unittest.TestCase):
    def test_names_that_are_there(self):
        for craft in CRAFTS:
            self.assertIs(craft_of(HELD, craft.name), craft)
        for site in SITES:
            self.assertIs(site_of(HELD, site.name), site)

    def test_names_that_are_not_there(self):
        for name in ("c", "", "A", "a00", "aa", "x"):
            with self.assertRaises(NoSuchCraft) as caught:
                craft_of(HELD, name)
            self.assertEqual(caught.exception.name, name)
        for name in ("a", "", "B", "c_0", "x"):
            with self.assertRaises(NoSuchSite) as caught:
                site_of(HELD, name)
            self.assertEqual(caught.exception.name, name)
        self.assertIsInstance(caught.exception, OrreryError)

    def test_empty_contents(self):
        with self.assertRaises(NoSuchCraft):
            craft_of(Contents(a_body(), 1, 0), "a")
        with self.assertRaises(NoSuchSite):
            site_of(Contents(a_body(), 1, 0), "a")


if __name__ == "__main__":
    unittest.main()
