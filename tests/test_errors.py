"""Point [5]: the errors."""

import unittest

from orrery import errors

ATTRIBUTES = {
    "BadArgument": "name", "NoSuchCraft": "name", "NoSuchSite": "name", "TooMany": None, "BeforeStart": None,
    "BurnsOverlap": None, "NoSuchBurn": None, "NoSuchSighting": None, "BadText": "line", "BadQuestion": "offset",
    "NothingKnown": "word", "CourseVoid": "at", "CourseLost": "at",
}


class ErrorsTest(unittest.TestCase):
    def test_the_base(self):
        self.assertEqual(errors.OrreryError.__bases__, (ValueError,))

    def test_each_derives_directly_and_has_its_attribute(self):
        for name, attribute in ATTRIBUTES.items():
            kind = getattr(errors, name)
            self.assertEqual(kind.__bases__, (errors.OrreryError,), name)
            self.assertEqual(kind.__module__, "orrery.errors")
            if attribute is None:
                self.assertEqual(vars(kind()), {})
            else:
                self.assertEqual(vars(kind(7)), {attribute: 7})
                with self.assertRaises(ValueError) as caught:
                    raise kind("seven")
                self.assertEqual(getattr(caught.exception, attribute), "seven")
                self.assertIn("seven", str(caught.exception))


if __name__ == "__main__":
    unittest.main()
