"""Points [78] and [80]: expressions, their levels, and the offsets of faults."""

import random
import unittest

from orrery.errors import BadQuestion
from orrery.questions.expressions import expression_text, parse_expression
from orrery.questions.tokens import tokens

SIGNS = ["+", "-", "*", "<", "<=", ">", ">=", "&", "|"]
A, B = ("word", "a"), ("word", "b")


def slow_parse(words, at, level):
    """All pairs (expression, place behind it) that begin at a place, whatever comes behind; tries each form."""
    found = []
    if level > 20 or at >= len(words):
        return found
    word = words[at]
    if word[0] in "abcdefghijklmnopqrstuvwxyz0123456789_":
        found.append((("word", word), at + 1))
        if words[at + 1:at + 2] == ["("]:
            if words[at + 2:at + 3] == [")"]:
                found.append((("call", word, ()), at + 3))
            lists = [((one,), end) for one, end in slow_parse(words, at + 2, level + 1)]
            for told, end in lists:
                if words[end:end + 1] == [")"]:
                    found.append((("call", word, told), end + 1))
                if words[end:end + 1] == [","]:
                    lists += [(told + (one,), last) for one, last in slow_parse(words, end + 1, level + 1)]
    if word == "-" and words[at + 1:at + 2] and words[at + 1].isdigit():
        found.append((("minus", words[at + 1]), at + 2))
    if word == "!":
        found += [(("not", one), end) for one, end in slow_parse(words, at + 1, level + 1)]
    if word == "(":
        for one, end in slow_parse(words, at + 1, level + 1):
            if words[end:end + 1] == [")"]:
                found.append((one, end + 1))
            if words[end:end + 1] and words[end] in SIGNS:
                for other, last in slow_parse(words, end + 1, level + 1):
                    if words[last:last + 1] == [")"]:
                        found.append((("pair", words[end], one, other), last + 1))
    return found


def can_go_on(words):
    """True if words are the beginning of an expression: tried with short ends behind them."""
    ends = [[]]
    for _ in range(words.count("(") + 1):
        ends += [end + [")"] for end in ends if end == [")"] * len(end)]
    starts = [[], ["7"], ["a"], ["+", "a"], ["(", ")"], ["a", "+", "a"]]
    for start in starts:
        for end in ends:
            whole = words + start + end
            if any(last == len(whole) for _, last in slow_parse(whole, 0, 1)):
                return True
    return False


class ExpressionTest(unittest.TestCase):
    def refused(self, text, offset):
        with self.assertRaises(BadQuestion) as caught:
            parse_expression(text)
        self.assertEqual(caught.exception.offset, offset, repr(text))

    def told(self, text, expression):
        self.assertEqual(parse_expression(text), expression, text)
        self.assertEqual(parse_expression(expression_text(expression)), expression)


class FormTest(ExpressionTest):
    def test_words(self):
        for word in ("a", "soon", "007", "_", "12ab", "z" * 40):
            self.told(word, ("word", word))
            self.told(f"  {word}  ", ("word", word))

    def test_minus(self):
        self.told("-5", ("minus", "5"))
        self.told(" -  005 ", ("minus", "005"))
        self.told("-0", ("minus", "0"))

    def test_not(self):
        self.told("!a", ("not", A))
        self.told("!!a", ("not", ("not", A)))
        self.told("! -5", ("not", ("minus", "5")))
        self.told("!(a < b)", ("not", ("pair", "<", A, B)))

    def test_calls(self):
        self.told("f()", ("call", "f", ()))
        self.told("f ( )", ("call", "f", ()))
        self.told("f(a)", ("call", "f", (A,)))
        self.told("f(a,b , -5,!a)", ("call", "f", (A, B, ("minus", "5"), ("not", A))))
        self.told("5(a)", ("call", "5", (A,)))
        self.told("f(g(), h(a))", ("call", "f", (("call", "g", ()), ("call", "h", (A,)))))

    def test_pairs(self):
        for sign in SIGNS:
            self.told(f"(a{sign}b)", ("pair", sign, A, B))
            self.told(f" ( a {sign} b ) ", ("pair", sign, A, B))
            self.told(f"((a{sign}b){sign}(b{sign}a))",
                      ("pair", sign, ("pair", sign, A, B), ("pair", sign, B, A)))
        self.told("(a--5)", ("pair", "-", A, ("minus", "5")))
        self.told("(-5-a)", ("pair", "-", ("minus", "5"), A))
        self.told("(!a&!b)", ("pair", "&", ("not", A), ("not", B)))

    def test_brackets_around_single_expressions(self):
        self.told("(a)", A)
        self.told("((((a))))", A)
        self.told("(-5)", ("minus", "5"))
        self.told("f((a),((b)))", ("call", "f", (A, B)))
        self.told("((a)+((b)))", ("pair", "+", A, B))
        self.told("!(a)", ("not", A))
        self.told("((a + b))", ("pair", "+", A, B))


class TextTest(unittest.TestCase):
    def test_texts(self):
        for text, wanted in [
            ("a", "a"), (" ( a ) ", "a"), ("-  005", "-005"), ("! ! a", "!!a"), ("f( )", "f()"),
            ("f(a,b,c)", "f(a, b, c)"),
            ("(a<=b)", "(a <= b)"), ("!(a&(b|c))", "!(a & (b | c))"), ("((f((a+-1))))", "f((a + -1))"),
            ("(f(a)-!g())", "(f(a) - !g())"),
        ]:
            self.assertEqual(expression_text(parse_expression(text)), wanted)

    def test_what_was_read_is_read_back(self):
        rng = random.Random(3)

        def made(depth):
            kind = rng.randrange(6) if depth else rng.randrange(2)
            if kind == 0:
                return ("word", rng.choice(["a", "12", "_x9", "soon"]))
            if kind == 1:
                return ("minus", rng.choice(["0", "007", "15"]))
            if kind == 2:
                return ("not", made(depth - 1))
            if kind == 3:
                return ("call", rng.choice(["f", "9", "at"]), tuple([made(depth - 1) for _ in range(rng.randrange(4))]))
            return ("pair", rng.choice(SIGNS), made(depth - 1), made(depth - 1))

        for _ in range(300):
            expression = made(4)
            text = expression_text(expression)
            self.assertEqual(parse_expression(text), expression)
            spaced = "  ".join([token for token, _ in tokens(text)])
            if len(spaced) <= 1000:
                self.assertEqual(parse_expression(spaced), expression)


class LevelTest(ExpressionTest):
    def test_brackets(self):
        self.told("(" * 19 + "a" + ")" * 19, A)
        self.refused("(" * 20 + "a" + ")" * 20, 20)
        self.refused("(" * 20, 20)
        self.refused("(" * 500, 20)
        self.refused("(" * 20 + ")", 20)

    def test_pairs(self):
        self.told("(a+" * 19 + "a" + ")" * 19, parse_expression("(a+" * 19 + "a" + ")" * 19))
        self.refused("(a+" * 20 + "a" + ")" * 20, 19 * 3 + 1)
        left = "(" * 19 + "a" + "+a)" * 19
        self.told(left, parse_expression(left))
        self.refused("(" + left + "+a)", 20)
        # The right side is on the same level as the left one.
        self.refused("(" * 18 + "(a+(b))" + ")" * 18, 18 + 4)
        self.told("(" * 18 + "(a+b)" + ")" * 18, ("pair", "+", A, B))

    def test_not(self):
        self.assertEqual(expression_text(parse_expression("!" * 19 + "a")), "!" * 19 + "a")
        self.refused("!" * 20 + "a", 20)
        self.refused("!" * 20, 20)
        self.refused("!" * 19, 19)
        self.refused("! " * 21 + "a", 40)

    def test_calls(self):
        text = "f(" * 19 + "a" + ")" * 19
        self.assertEqual(expression_text(parse_expression(text)), text)
        self.refused("f(" * 20 + "a" + ")" * 20, 40)
        # Brackets with nothing in them begin no expression.
        text = "f(" * 20 + ")" * 20
        self.assertEqual(expression_text(parse_expression(text)), text)
        self.refused("f(" * 21 + ")" * 21, 40)
        self.refused("f(" * 20 + "  a", 42)
        self.refused("f(" * 20, 40)
        self.refused("f(" * 20 + ",", 40)
        self.refused("f(" * 19 + "a,b,c(d)", 38 + 4 + 2)
        self.refused("f(" * 19 + "a,b,c(),d", 38 + 9)

    def test_mixed(self):
        self.told("!(" * 9 + "!" + "a" + ")" * 9, parse_expression("!" * 10 + "a"))
        self.refused("!(" * 10 + "a" + ")" * 10, 20)
        self.refused("!f(" * 10 + "a", 30)
        self.refused("!f(" * 9 + "!!a", 29)
        self.assertEqual(parse_expression("!f(" * 9 + "!f()" + ")" * 9)[0], "not")
        # On level 20 a number below 0 is no expression more.
        self.told("(" * 19 + "-5" + ")" * 19, ("minus", "5"))

    def test_the_other_faults_ahead_of_a_level_count(self):
        self.refused(") " + "(" * 30, 0)
        self.refused("(" * 30 + "#", 30)
        self.refused("(" * 1001, 1000)


class OffsetTest(ExpressionTest):
    def test_where_an_expression_cannot_begin(self):
        for sign in (")", ",", "+", "*", "<", "<=", ">", ">=", "&", "|"):
            self.refused(sign, 0)
            self.refused("  " + sign + " a", 2)
            self.refused("(" + sign, 1)
            self.refused("!" + sign, 1)
            self.refused("(a+" + sign, 3)
            self.refused("f(a," + sign, 4)
            if sign != ")":
                self.refused("f(" + sign, 2)

    def test_the_end_of_the_text(self):
        for text in ("", "!", "-", "(", "f(", "(a", "(a+", "(a+b", "f(a", "f(a,", "f(a,b", "((a)", "!f("):
            self.refused(text, len(text))
            self.refused(text + "   ", len(text) + 3)
        self.refused("f(()", 3)

    def test_behind_a_minus(self):
        self.refused("-a", 1)
        self.refused("- 5a", 2)
        self.refused("-_", 1)
        self.refused("--5", 1)
        self.refused("-(5)", 1)
        self.refused("-!5", 1)
        self.refused("-5(a)", 2)
        self.refused("(a--b)", 4)

    def test_behind_an_expression(self):
        for more in ("b", "-5", "!", ")", ",", "+", "<="):
            self.refused("a " + more, 2)
            self.refused("!a " + more, 3)
        for more in ("b", "-5", "!", "(", ")", ",", "+", "<="):
            self.refused("f(a) " + more, 5)
            self.refused("(a + b) " + more, 8)
        for more in ("b", "!", ",", "5"):
            self.refused("(a " + more, 3)
        for more in ("b", "!", ",", "5", "+", "-", "<"):
            self.refused("(a+b " + more, 5)
        for more in ("b", "!", "5", "+", "-", "<"):
            self.refused("f(a " + more, 4)
        self.refused("(a b)", 3)
        self.refused("(a + b + c)", 7)
        self.refused("(a, b)", 2)
        self.refused("f(a + b)", 4)
        self.refused("f(a,)", 4)
        self.refused("f(,a)", 2)
        self.refused("(())", 2)
        self.refused("()", 1)
        self.refused("f()()", 3)
        self.refused("(f)(a)", 3)
        self.refused("a < b", 2)
        self.refused("!a & b", 3)

    def test_a_character_that_belongs_to_no_token_is_told_first(self):
        self.refused(") ) ( =", 6)
        self.refused("a b c #", 6)
        self.refused("(a + b + c) A", 12)
        self.refused(")" * 1001, 1000)

    def test_against_another_way(self):
        rng = random.Random(6)
        parts = ["a", "7", "(", "(", ")", ")", ",", "!", "-", "+", "<="]
        wholes = 0
        for _ in range(3000):
            words = [rng.choice(parts) for _ in range(rng.randint(1, 7))]
            text = " ".join(words)
            alike = [one for one, end in slow_parse(words, 0, 1) if end == len(words)]
            if alike:
                wholes += 1
                self.assertEqual([parse_expression(text)], alike)
                continue
            first = [k for k in range(len(words)) if not can_go_on(words[:k + 1])]
            offset = len(text) if not first else len(" ".join(words[:first[0]])) + (first[0] > 0)
            self.refused(text, offset)
        self.assertGreater(wholes, 50)


if __name__ == "__main__":
    unittest.main()
