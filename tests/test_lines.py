"""Point [38]: how lines and numbers are written."""

import unittest

from orrery.papers.lines import (
    box_numbers, box_of, digits_of, interval_of, number_line, number_of, numbers_of, write_line,
)


class WriteTest(unittest.TestCase):
    def test_words(self):
        self.assertEqual(write_line(["orrery", "certificate"]), "orrery certificate\n")
        self.assertEqual(write_line(["claim", "12"]), "claim 12\n")
        self.assertEqual(write_line(["one"]), "one\n")


    def test_numbers(self):
        self.assertEqual(number_line("seen", [5, -1, 0, 10 ** 15]), "seen 5 -1 0 1000000000000000\n")
        for number in (0, 1, -1, 10, -10, 9 ** 70, 10 ** 64 - 1, 10 ** 64, 10 ** 64 + 1, -10 ** 64, 10 ** 128,
                       7 ** 400):
            self.assertEqual(digits_of(number), str(number))
        self.assertEqual(digits_of(10 ** 5000), "1" + "0" * 5000)
        self.assertEqual(digits_of(-10 ** 5000 - 5), "-1" + "0" * 4999 + "5")


class NumberTest(unittest.TestCase):
    def test_numbers(self):
        for number in (0, 1, 9, 10, 105, -1, -10, 10 ** 40, -(10 ** 40)):
            self.assertEqual(number_of(str(number)), number)

    def test_zero_and_zeros_in_front(self):
        self.assertEqual(number_of("0"), 0)
        for word in ("-0", "00", "01", "-01", "007", "-00", "0-1"):
            self.assertIsNone(number_of(word), word)

    def test_other_words(self):
        words = ["", "-", "--1", "+1", "+0", " 1", "1 ", "1 2", "-1-", "1-", "- 1", "1_000", "1.0", "1e3", "0x1", "x",
                 "1\n", "\n1", "\t1", "\u0661", "\u00b2", "1\u0661", "-\u0661", "\uff11", "\u22121", "None"]
        for word in words:
            self.assertIsNone(number_of(word), repr(word))

    def test_sixty_digits(self):
        self.assertEqual(number_of("9" * 60), 10 ** 60 - 1)
        self.assertEqual(number_of("-" + "9" * 60), 1 - 10 ** 60)
        self.assertEqual(number_of("1" + "0" * 59), 10 ** 59)
        for word in ("9" * 61, "-" + "9" * 61, "1" + "0" * 60, "1" * 5000, "0" * 61):
            self.assertIsNone(number_of(word))

    def test_numbers_of(self):
        self.assertEqual(numbers_of(["1", "-2", "0"]), [1, -2, 0])
        self.assertEqual(numbers_of([]), [])
        for words in (["1", "x", "0"], ["-0"], ["1", ""], ["x", "y"]):
            self.assertIsNone(numbers_of(words))


class BoxTest(unittest.TestCase):
    def test_interval_of(self):
        self.assertEqual(interval_of(-3, 5), (-3, 5))
        self.assertEqual(interval_of(5, 5), (5, 5))
        self.assertIsNone(interval_of(5, 4))

    def test_box_of(self):
        self.assertEqual(box_of([1, 2, -3, -3, 0, 9]), ((1, 2), (-3, -3), (0, 9)))
        self.assertIsNone(box_of([2, 1, 0, 0, 0, 0]))
        self.assertIsNone(box_of([0, 0, 2, 1, 0, 0]))
        self.assertIsNone(box_of([0, 0, 0, 0, 2, 1]))

    def test_box_numbers(self):
        self.assertEqual(box_numbers(((1, 2), (-3, -3), (0, 9))), [1, 2, -3, -3, 0, 9])
        self.assertEqual(box_of(box_numbers(((1, 2), (-3, 4), (0, 9)))), ((1, 2), (-3, 4), (0, 9)))

    def test_arguments_stay_as_they_are(self):
        numbers, words = [1, 2, -3, -3, 0, 9], ["1", "2"]
        box_of(numbers)
        numbers_of(words).append(7)
        write_line(words)
        self.assertEqual((numbers, words), ([1, 2, -3, -3, 0, 9], ["1", "2"]))


if __name__ == "__main__":
    unittest.main()
