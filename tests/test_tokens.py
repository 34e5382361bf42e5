"""Points [78] and [80]: the tokens of a question."""

import unittest

from orrery.errors import BadQuestion, OrreryError
from orrery.questions.tokens import tokens

SIGNS = ["(", ")", ",", "!", "+", "-", "*", "<", "<=", ">", ">=", "&", "|"]


def words(text):
    return [token for token, _ in tokens(text)[:-1]]


class TokensTest(unittest.TestCase):
    def refused(self, text, offset):
        with self.assertRaises(BadQuestion) as caught:
            tokens(text)
        self.assertEqual(caught.exception.offset, offset, repr(text))

    def test_the_empty_text_and_spaces(self):
        self.assertEqual(tokens(""), [("", 0)])
        self.assertEqual(tokens(" "), [("", 1)])
        self.assertEqual(tokens("     "), [("", 5)])

    def test_each_sign_alone(self):
        for sign in SIGNS:
            self.assertEqual(tokens(sign), [(sign, 0), ("", len(sign))])
            self.assertEqual(tokens(f"  {sign} "), [(sign, 2), ("", 3 + len(sign))])

    def test_each_two_signs_beside_each_other(self):
        for first in SIGNS:
            for second in SIGNS:
                wanted = [(first, 0), (second, len(first)), ("", len(first + second))]
                self.assertEqual(tokens(first + second), wanted)
                self.assertEqual(words(f"a{first}{second}7"), ["a", first, second, "7"])

    def test_the_longest_one(self):
        self.assertEqual(tokens("a<=b"), [("a", 0), ("<=", 1), ("b", 3), ("", 4)])
        self.assertEqual(words("<<="), ["<", "<="])
        self.assertEqual(words("<=<"), ["<=", "<"])
        self.assertEqual(words(">>=<>"), [">", ">=", "<", ">"])

    def test_words(self):
        for word in ("a", "z", "0", "9", "_", "abc12", "12abc", "a_1_b", "_a", "__", "007", "z" * 1000):
            self.assertEqual(tokens(word), [(word, 0), ("", len(word))])
        self.assertEqual(words("ab 12"), ["ab", "12"])
        self.assertEqual(words("ab12(x)3y"), ["ab12", "(", "x", ")", "3y"])
        self.assertEqual(words("-12a"), ["-", "12a"])

    def test_offsets(self):
        self.assertEqual(tokens(" at( 5 ,x)  "),
                         [("at", 1), ("(", 3), ("5", 5), (",", 7), ("x", 8), (")", 9), ("", 12)])

    def test_length(self):
        self.assertEqual(len(tokens("(" * 1000)), 1001)
        self.assertEqual(tokens(" " * 1000), [("", 1000)])
        for text in ("(" * 1001, " " * 1001, "#" * 1001, "a" * 5000, "#" + " " * 1000):
            self.refused(text, 1000)
        self.refused("a" * 999 + "#", 999)

    def test_characters_that_belong_to_no_token(self):
        for sign in "=#ABZ.;:?/\\[]{}'\"@$^~`\t\n\r\x0b\x00\u00a0\u00e4\u0661\u00b2\u2264\uff11\U0001d7d9":
            self.refused(sign, 0)
            self.refused("a" + sign, 1)
            self.refused("  a <= b" + sign + "c", 8)
            self.refused("( " + sign + " " + sign, 2)
        self.refused("a == b", 2)
        self.refused("a <== b", 4)
        self.refused("a < = b", 4)
        self.refused("a != b", 3)
        self.refused("a => b", 2)

    def test_a_new_list(self):
        tokens("a b").clear()
        self.assertEqual(len(tokens("a b")), 3)

    def test_the_error(self):
        with self.assertRaises(OrreryError):
            tokens("#")


if __name__ == "__main__":
    unittest.main()
