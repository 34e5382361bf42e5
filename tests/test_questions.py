"""Points [75], [76], [79] and [80]: what texts of questions stand for, and their last ticks."""

import unittest

from orrery.errors import BadQuestion, OrreryError
from orrery.questions.reading import last_tick, read_question

FACT = ("fact", "f", ())
G = ("fact", "g", ())
ONE, TWO = ("number", 1), ("number", 2)


class QuestionTest(unittest.TestCase):
    def refused(self, text, offset=0):
        with self.assertRaises(BadQuestion) as caught:
            read_question(text)
        self.assertEqual(caught.exception.offset, offset, text)

    def condition(self, text, wanted):
        self.assertEqual(read_question(f"at(7, {text})"), ("throughout", 7, 7, wanted))

    def no_condition(self, *texts):
        for text in texts:
            self.refused(f"at(7, {text})")
            self.refused(f"throughout(7, 8, !{text})")

    def quantity(self, text, wanted):
        self.assertEqual(read_question(f"range(7, 8, {text})"), ("range", 7, 8, wanted))
        self.condition(f"({text} < 1)", ("less", wanted, ONE))

    def no_quantity(self, *texts):
        for text in texts:
            self.refused(f"range(7, 8, {text})")
            self.no_condition(f"({text} < 1)", f"(1 >= {text})")


class QuestionWordsTest(QuestionTest):
    def test_at(self):
        self.assertEqual(read_question("at(5, f())"), ("throughout", 5, 5, FACT))
        self.assertEqual(read_question(" at ( 0 , f ( ) ) "), ("throughout", 0, 0, FACT))

    def test_questions_about_spans(self):
        for word in ("throughout", "sometime", "never", "first", "rises", "times"):
            self.assertEqual(read_question(f"{word}(3, 9, f())"), (word, 3, 9, FACT))
            self.assertEqual(read_question(f"{word}(4, 4, !f())"), (word, 4, 4, ("not", FACT)))
            self.refused(f"{word}(4, f())")
            self.refused(f"{word}(4, 5, 6, f())")
            self.refused(f"{word}(4, 5, 6)")
            self.refused(f"{word}(4, 5, f)")
            self.refused(f"{word}()")
            self.refused(f"{word}")

    def test_range(self):
        self.assertEqual(read_question("range(3, 9, x(a))"), ("range", 3, 9, ("value", "x", ("a",))))
        self.refused("range(3, x(a))")
        self.refused("range(3, 9, (1 < 2))")
        self.refused("range(3, 9, !x(a))")
        self.refused("range(3, 9, x(a), x(a))")

    def test_each(self):
        one = ("throughout", 3, 3, ("fact", "f", ("p",)))
        self.assertEqual(read_question("each(p, at(3, f(p)))"), ("each", "p", one))
        self.assertEqual(read_question("each(p, each(q, at(3, f(p))))"), ("each", "p", ("each", "q", one)))
        self.assertEqual(read_question("each(p, each(p, at(3, f(p))))"), ("each", "p", ("each", "p", one)))
        self.refused("each(p, each(q, each(r, at(3, f(p)))))")
        self.refused("each(p, each(q, each(r, each(s, at(3, f(p))))))")
        ranged = ("range", 1, 2, ("value", "x", ("5",)))
        self.assertEqual(read_question("each(5, range(1, 2, x(5)))"), ("each", "5", ranged))
        for text in ("each(p, f(p))", "each(p)", "each()", "each(at(3, f()), p)", "each(p, q)",
                     "each(p, at(3, f()), 1)",
                     "each(p(), at(3, f()))", "each(-5, at(3, f()))", "each(p, at(3, f))", "each(p, range(3, 2, 1))"):
            self.refused(text)

    def test_names_of_each(self):
        self.assertEqual(read_question("each(abcdefghijkl, at(3, f()))")[1], "abcdefghijkl")
        self.refused("each(abcdefghijklm, at(3, f()))")

    def test_brackets_around_single_expressions(self):
        self.assertEqual(read_question("((at((5), (f()))))"), ("throughout", 5, 5, FACT))
        self.assertEqual(read_question("each((p), (at(5, f((p)))))")[2], ("throughout", 5, 5, ("fact", "f", ("p",))))
        self.assertEqual(read_question("range(1, 2, ((x((a)))))")[3], ("value", "x", ("a",)))

    def test_expressions_that_are_no_questions(self):
        for text in ("a", "5", "-5", "!at(5, f())", "f()", "soon(5, f())", "(at(5, f()) & at(5, f()))", "(1 < 2)",
                     "at(5)", "at()", "at(5, f(), g())", "at(5, 6, f())", "at(f(), 5)", "at(5, at(5, f()))", "at",
                     "sometimes(1, 2, f())", "until(1, f(), f())", "5(1, 2, f())"):
            self.refused(text)

    def test_what_is_no_expression(self):
        self.refused("", 0)
        self.refused("at(5, f()", 9)
        self.refused("at(5, f()) x", 11)
        self.refused("at(5, x(a) < 3)", 11)
        self.refused("at(5, f()) = 1", 11)
        self.refused("a" * 1001, 1000)
        # The fault of form is told, though it is no question for another reason, too.
        self.refused("at(9999999, (f))) ", 16)

    def test_the_error(self):
        with self.assertRaises(OrreryError):
            read_question("a")


class TickTest(QuestionTest):
    def test_bounds(self):
        self.assertEqual(read_question("at(100000, f())"), ("throughout", 100000, 100000, FACT))
        self.assertEqual(read_question("times(0, 100000, f())"), ("times", 0, 100000, FACT))
        for text in ("at(100001, f())", "times(0, 100001, f())", "times(100001, 100001, f())", "range(0, 100001, 1)",
                     "at(7, soon(100001, f()))", "at(" + "9" * 900 + ", f())"):
            self.refused(text)
        self.condition("soon(100000, f())", ("soon", 100000, FACT))

    def test_zeros_in_front(self):
        self.assertEqual(read_question("at(007, f())"), ("throughout", 7, 7, FACT))
        self.assertEqual(read_question("at(" + "0" * 900 + "100000, f())")[1], 100000)
        self.assertEqual(read_question("times(000, 0012, soon(03, f()))"), ("times", 0, 12, ("soon", 3, FACT)))

    def test_the_second_one_less_than_the_first_one(self):
        for word in ("throughout", "sometime", "never", "first", "rises", "times"):
            self.refused(f"{word}(5, 4, f())")
            self.assertEqual(read_question(f"{word}(05, 5, f())"), (word, 5, 5, FACT))
        self.refused("range(5, 4, 1)")
        self.refused("range(10, 9, 1)")
        self.refused("each(p, times(5, 4, f()))")

    def test_what_is_no_tick(self):
        for tick in ("-5", "-0", "x", "x5", "5x", "x()", "5()", "(1 + 1)", "!5", "_"):
            self.refused(f"at({tick}, f())")
            self.refused(f"throughout({tick}, 9, f())")
            self.refused(f"throughout(0, {tick}, f())")
            self.refused(f"at(0, soon({tick}, f()))")
            self.refused(f"at(0, until({tick}, f(), f()))")


class ConditionTest(QuestionTest):
    def test_comparisons(self):
        self.condition("(1 < 2)", ("less", ONE, TWO))
        self.condition("(1 <= 2)", ("at most", ONE, TWO))
        self.condition("(1 > 2)", ("less", TWO, ONE))
        self.condition("(1 >= 2)", ("at most", TWO, ONE))
        self.no_condition("(1 < f)", "(f < 1)", "((1 < 2) < 3)", "(!f() < 1)", "(f > 1)", "(1 >= f)", "(1 <= !1)")

    def test_not_and_or(self):
        self.condition("!f()", ("not", FACT))
        self.condition("!!f()", ("not", ("not", FACT)))
        self.condition("(f() & g())", ("and", FACT, G))
        self.condition("(f() | g())", ("or", FACT, G))
        self.condition("((f() & g()) | !(1 < 2))", ("or", ("and", FACT, G), ("not", ("less", ONE, TWO))))
        self.no_condition("!5", "(f() & 5)", "(f | g())", "(f() + g())", "(f() * g())", "(f() - g())",
                          "((1 + 1) & f())")

    def test_delays(self):
        for word in ("soon", "ahead", "lately", "behind"):
            self.condition(f"{word}(0, f())", (word, 0, FACT))
            self.condition(f"{word}(03, {word}(5, g()))", (word, 3, (word, 5, G)))
            self.no_condition(f"{word}(f(), 3)", f"{word}(3)", f"{word}(3, f(), g())", f"{word}()", f"{word}(a)",
                              f"{word}(a, b)", f"{word}(3, 5)", f"{word}(-3, f())", f"{word}(3, f)", word)

    def test_until(self):
        self.condition("until(4, f(), g())", ("until", 4, FACT, G))
        self.no_condition("until(4, f())", "until(4, f(), g(), f())", "until(f(), 4, g())", "until()", "until(a, b, c)",
                          "until(4, f, g())", "until(4, f(), g)", "until(a)", "until")

    def test_some_and_every(self):
        for word in ("some", "every"):
            self.condition(f"{word}(p, f(p))", (word, "p", ("fact", "f", ("p",))))
            self.condition(f"{word}(5, {word}(abcdefghijkl, g()))", (word, "5", (word, "abcdefghijkl", G)))
            self.no_condition(f"{word}(p)", f"{word}(p, q)", f"{word}()", f"{word}(abcdefghijklm, f())",
                              f"{word}(f(), p)", f"{word}(p, f(), g())", f"{word}(-5, f())", f"{word}(p(), f())", word)

    def test_facts(self):
        self.condition("burning(a)", ("fact", "burning", ("a",)))
        self.condition("sees(a, s, 0500000000)", ("fact", "sees", ("a", "s", "0500000000")))
        self.condition("same(a, a)", ("fact", "same", ("a", "a")))
        self.condition("f(1, 02, soon, at, _)", ("fact", "f", ("1", "02", "soon", "at", "_")))
        self.condition("12a()", ("fact", "12a", ()))
        self.condition("abcdefghijklmnopq(a)", ("fact", "abcdefghijklmnopq", ("a",)))
        self.no_condition("f", "5", "5()", "5(a)", "007(a)", "-5", "f(g())", "f(-5)", "f(!a)", "f((a + b))",
                          "f(a, g())")

    def test_words_of_questions_as_facts(self):
        for word in ("at", "throughout", "sometime", "never", "first", "rises", "times", "range", "each"):
            self.condition(f"{word}(a, b, c)", ("fact", word, ("a", "b", "c")))
            self.condition(f"{word}()", ("fact", word, ()))
            self.condition(f"{word}(5, 6, 7)", ("fact", word, ("5", "6", "7")))
            self.no_condition(f"{word}(5, 6, f())", f"{word}(5, f())")

    def test_words_of_quantities_as_facts(self):
        for word in ("x", "radius", "distance"):
            self.condition(f"{word}(a)", ("fact", word, ("a",)))

    def test_names(self):
        self.condition("f(abcdefghijkl)", ("fact", "f", ("abcdefghijkl",)))
        self.condition("f(000000000005)", ("fact", "f", ("000000000005",)))
        self.no_condition("f(abcdefghijklm)", "f(a, 0000000000005)")


class QuantityTest(QuestionTest):
    def test_numbers(self):
        self.quantity("0", ("number", 0))
        self.quantity("007", ("number", 7))
        self.quantity("100001", ("number", 100001))
        self.quantity("-5", ("number", -5))
        self.quantity("- 005", ("number", -5))
        self.quantity("-0", ("number", 0))
        self.quantity("9" * 500, ("number", 10 ** 500 - 1))
        self.quantity("(-5)", ("number", -5))

    def test_words_with_names(self):
        self.quantity("x(a)", ("value", "x", ("a",)))
        self.quantity("distance(a, b)", ("value", "distance", ("a", "b")))
        self.quantity("f()", ("value", "f", ()))
        self.quantity("12a(5, abcdefghijkl)", ("value", "12a", ("5", "abcdefghijkl")))
        self.no_quantity("x", "12(a)", "x(y(a))", "x(-5)", "x(abcdefghijklm)", "x(!a)", "!x(a)", "!5")

    def test_all_words_may_stand(self):
        for word in ("soon", "ahead", "lately", "behind", "until", "some", "every", "at", "throughout", "sometime",
                     "never", "first", "rises", "times", "range", "each", "sees", "burning", "same"):
            self.quantity(f"{word}(a, b)", ("value", word, ("a", "b")))
            self.quantity(f"{word}()", ("value", word, ()))
            self.no_quantity(f"{word}(1, f())")

    def test_sums_differences_and_products(self):
        self.quantity("(1 + 2)", ("sum", ONE, TWO))
        self.quantity("(1 - 2)", ("difference", ONE, TWO))
        self.quantity("(1 * 2)", ("product", ONE, TWO))
        self.quantity("((1 + 2) * (1 - -2))", ("product", ("sum", ONE, TWO), ("difference", ONE, ("number", -2))))
        self.no_quantity("(1 < 2)", "(1 & 2)", "(1 | 2)", "(1 + !2)", "((1 < 2) + 1)", "(x + 1)", "(1 - x)")


class LastTickTest(unittest.TestCase):
    def check(self, text, wanted):
        self.assertEqual(last_tick(read_question(text)), wanted, text)

    def test_without_reach(self):
        for word in ("throughout", "sometime", "never", "first", "rises", "times"):
            self.check(f"{word}(3, 9, f())", 9)
        self.check("at(5, f())", 5)
        self.check("at(5, (x(a) < 3))", 5)
        self.check("at(5, (x(a) <= 30))", 5)
        self.check("at(5, !(f() & (g() | (1 >= 70))))", 5)
        self.check("range(3, 9, x(a))", 9)
        self.check("range(3, 9, (soon(a) + 50))", 9)
        self.check("range(3, 100000, 5)", 100000)

    def test_soon_and_ahead(self):
        self.check("at(5, soon(7, f()))", 12)
        self.check("at(5, ahead(7, f()))", 12)
        self.check("times(3, 9, soon(7, ahead(20, soon(0, f()))))", 36)

    def test_until(self):
        self.check("at(5, until(7, f(), g()))", 12)
        self.check("at(5, until(7, soon(3, f()), g()))", 15)
        self.check("at(5, until(7, soon(3, f()), soon(4, g())))", 16)
        self.check("at(5, until(7, soon(30, f()), until(4, f(), soon(1, g()))))", 42)

    def test_what_leaves_the_reach_as_it_is(self):
        for form in ("lately(50, {})", "behind(50, {})", "!{}", "some(p, {})", "every(p, {})", "some(7, every(8, {}))"):
            self.check("at(5, " + form.format("soon(7, f())") + ")", 12)
            self.check("at(5, " + form.format("f()") + ")", 5)
            self.check("at(5, soon(7, " + form.format("f()") + "))", 12)
            self.check("at(5, soon(7, " + form.format("ahead(3, f())") + "))", 15)

    def test_and_and_or(self):
        for sign in "&|":
            self.check(f"at(5, (soon(7, f()) {sign} soon(9, f())))", 14)
            self.check(f"at(5, (soon(7, f()) {sign} f()))", 12)
            self.check(f"at(5, (f() {sign} (soon(1, f()) {sign} soon(7, f()))))", 12)

    def test_each(self):
        self.check("each(p, at(5, soon(7, f())))", 12)
        self.check("each(p, each(q, range(3, 9, x(p))))", 9)

    def test_bounded(self):
        self.check("at(99999, soon(1, f()))", 100000)
        self.check("at(99999, soon(2, f()))", 100000)
        self.check("at(0, soon(100000, soon(100000, f())))", 100000)
        self.check("each(p, at(100000, until(5, f(), g())))", 100000)


if __name__ == "__main__":
    unittest.main()
