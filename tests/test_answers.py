"""Points [70] to [77]: what is known of facts, quantities and conditions of crafts, and answers to questions."""

import random
import unittest
from math import isqrt

from orrery.data import Body, Burn, Contents, Craft, Sighting, Site, contents_data
from orrery.errors import BadQuestion, NothingKnown
from orrery.questions.answers import ask
from orrery.questions.reading import last_tick, read_question
from orrery.questions import spans as lines
from orrery.questions.quantities import at_most, combined, less
from orrery.space.boxes import box_subtract, square_length
from orrery.space.intervals import root
from orrery.stations.passes import passes
from orrery.stations.sites import site_at
from orrery.ways.courses import course

from test_meetings import falling
from test_passes import stands_high
from worlds import FAR, FEEBLE, STILL, a_craft, cube, glider, obeying_motion, orbiter

SITE = Site("s", (-FAR, 0, 0))
OTHER_SITE = Site("t", (-FAR - 10, 0, 0))


def sky(*crafts, stride=1, fineness=0, sites=(SITE, OTHER_SITE), body=FEEBLE):
    return Contents(body, stride, fineness, crafts, sites)


def slow_known(contents, last, bound):
    """A reader of quantities and conditions in the words of points [70] to [74]."""
    crafts = {craft.name: craft for craft in contents.crafts}

    def boxes(name):
        return [(piece.begin, piece.end, piece.during()) for piece in course(contents, crafts[name], last).pieces]

    def quantity(told, names):
        if told[0] == "number":
            return [(0, last, (told[1], told[1]))]
        if told[0] != "value":
            return combined(told[0], quantity(told[1], names), quantity(told[2], names))
        real = [names.get(name, name) for name in told[2]]
        if told[1] == "distance":
            pairs = [(max(a, c), min(b, d), box_subtract(p, q)) for a, b, p in boxes(real[0])
                     for c, d, q in boxes(real[1])]
            return [(a, b, root(square_length(box))) for a, b, box in pairs if a <= b]
        if told[1] == "radius":
            return [(a, b, root(square_length(box))) for a, b, box in boxes(real[0])]
        return [(a, b, box["xyz".index(told[1])]) for a, b, box in boxes(real[0])]

    def fact(word, real):
        if word == "sees":
            site = [site for site in contents.sites if site.name == real[1]][0]
            told = passes(contents, crafts[real[0]], site, 0, last, int(real[2]))
            return tuple([(a, b) for a, b, verdict in told if verdict == wanted] for wanted in ("sure", "never"))
        if word == "same":
            whole = [(0, last)]
            return (whole, []) if real[0] == real[1] else ([], whole)
        craft = crafts[real[0]]
        ends = [craft.start] + [burn.end for burn in craft.burns]
        begins = [burn.begin for burn in craft.burns] + [last + 1]
        yes = [(burn.begin, burn.end - 1) for burn in craft.burns]
        return lines.joined(yes), lines.joined([(a, b - 1) for a, b in zip(ends, begins)])

    def line(told, names):
        word = told[0]
        if word == "not":
            return line(told[1], names)[::-1]
        if word in ("less", "at most"):
            return (less if word == "less" else at_most)(quantity(told[1], names), quantity(told[2], names))
        if word == "fact":
            return fact(told[1], [names.get(name, name) for name in told[2]])
        if word == "every":
            made = ([(0, last)], [])
            for name in crafts:
                made = lines.both(made, line(told[2], {**names, told[1]: name}))
            return made
        if word == "some":
            return line(("not", ("every", told[1], ("not", told[2]))), names)
        if word == "and":
            return lines.both(line(told[1], names), line(told[2], names))
        if word == "or":
            return line(("not", ("and", ("not", told[1]), ("not", told[2]))), names)
        if word == "until":
            return lines.until(told[1], line(told[2], names), line(told[3], names))
        if word in ("ahead", "behind"):
            return line(("not", ({"ahead": "soon", "behind": "lately"}[word], told[1], ("not", told[2]))), names)
        yes, no = line(told[2], names)
        if word == "soon":
            return lines.earlier_begins(yes, told[1]), lines.earlier_ends(no, told[1])
        return lines.later_ends(yes, told[1]), lines.later_begins(no, told[1])

    return line if bound else quantity


def slow_answers(contents, begin, end, text):
    """The answers to the questions about a condition, by ticks."""
    question = read_question(f"times({begin}, {end}, {text})")
    line = slow_known(contents, last_tick(question), True)(question[3], {})
    asked = range(begin, end + 1)
    yes, no = [{at for a, b in spans for at in range(max(a, begin), min(b, end) + 1)} for spans in line]

    def throughout(yes, no):
        return "sure" if yes >= set(asked) else "impossible" if no else "unknown"

    exchanged = {"sure": "impossible", "impossible": "sure", "unknown": "unknown"}
    open_ticks = [at for at in asked if at not in no]
    first = (False, min(open_ticks), min(yes, default=None)) if open_ticks else (True, None, None)
    begins = sorted([(at, 0) for at in no if at - 1 not in no] + [(at, 1) for at in yes if at - 1 not in yes])
    words = "".join(str(word) for _, word in begins)
    times = tuple(lines.joined([(at, at) for at in ticks]) for ticks in (yes, no))
    return {
        "throughout": throughout(yes, no), "never": throughout(no, yes), "sometime": exchanged[throughout(no, yes)],
        "first": first, "rises": words.count("01"), "times": times,
    }


class Test(unittest.TestCase):
    def check(self, contents, text, wanted):
        before = contents_data(contents)
        self.assertEqual(ask(contents, text), wanted, text)
        self.assertEqual(contents_data(contents), before)

    def times(self, contents, begin, end, text, yes, no):
        self.check(contents, f"times({begin}, {end}, {text})", (yes, no))

    def nothing(self, contents, text, word):
        with self.assertRaises(NothingKnown) as caught:
            ask(contents, text)
        self.assertEqual(caught.exception.word, word, text)


class QuantityTest(Test):
    def test_coordinates(self):
        held = sky(glider("a", 2, (-5, -6, -7), (1, -2, 0), 1))
        self.check(held, "range(2, 2, x(a))", (-FAR - 6, -FAR - 4))
        self.check(held, "range(2, 2, y(a))", (-7, -5))
        self.check(held, "range(2, 4, y(a))", (-11, -5))
        self.check(held, "range(2, 4, z(a))", (-8, -6))
        self.check(held, "range(3, 4, (x(a) + 1000000000000))", (-5, -2))

    def test_the_range_needs_all_ticks(self):
        held = sky(glider("a", 2, (-5, -6, -7), (1, -2, 0), 1))
        self.check(held, "range(1, 2, x(a))", None)
        self.check(held, "range(0, 1, x(a))", None)
        void = sky(glider("a", 2, (-5, -6, -7), (0, 0, 0), 1, [Sighting(6, STILL)]))
        self.check(void, "range(2, 5, z(a))", (-8, -6))
        self.check(void, "range(2, 6, z(a))", None)
        self.check(void, "range(7, 8, z(a))", None)
        both = sky(*void.crafts, glider("b", 4, (0, 0, -1)))
        self.check(both, "range(4, 5, (z(a) - z(b)))", (-7, -5))
        self.check(both, "range(3, 5, (z(a) - z(b)))", None)

    def test_the_piece_is_not_cut(self):
        held = sky(glider("a", 0, (0, -90, 0), (0, 1, 0)), stride=4)
        self.check(held, "range(0, 0, y(a))", (-90, -87))
        self.check(held, "range(3, 4, y(a))", (-90, -83))
        self.check(held, "range(5, 6, y(a))", (-86, -83))
        # All of the piece, beyond the last tick too.
        self.times(held, 0, 9, "(y(a) < -86)", [(0, 3)], [(4, 9)])
        self.check(held, "at(2, (y(a) <= -87))", "sure")

    def test_radius(self):
        body = Body(1, 0, (1, 0, 1))
        held = Contents(body, 1, 0, [a_craft("a", 0, ((-3, -3), (-4, -4), (-12, -12)))])
        self.check(held, "range(0, 0, radius(a))", (13, 13))
        wide = Contents(body, 1, 0, [a_craft("a", 0, ((-3, 3), (-4, 4), (0, 12)))])
        self.check(wide, "range(0, 0, radius(a))", (0, 13))
        odd = Contents(body, 1, 0, [a_craft("a", 0, ((-9, -5), (0, 1), (0, 1)))])
        self.check(odd, "range(0, 0, radius(a))", (5, 9))

    def test_distance(self):
        first, second = glider("a", 0, (-30, -40, 0), (0, 1, 0)), glider("b", 2, (0, -2, -1), (0, 0, 0), 1)
        held = sky(first, second)
        # At tick 2 the differences are from 29 to 31, from 35 to 37, and up to 2.
        self.check(held, "range(2, 2, distance(a, b))", (isqrt(29 ** 2 + 35 ** 2), isqrt(31 ** 2 + 37 ** 2 + 4)))
        self.check(held, "range(2, 2, distance(b, a))", (isqrt(29 ** 2 + 35 ** 2), isqrt(31 ** 2 + 37 ** 2 + 4)))
        self.check(held, "range(1, 2, distance(b, a))", None)
        self.check(held, "range(0, 9, distance(a, a))", (0, 0))
        self.check(held, "range(2, 9, distance(b, b))", (0, isqrt(12)))
        slow = sky(first, second, stride=3)
        self.check(slow, "range(0, 2, distance(a, a))", (0, 2))
        # The pieces begin at 0, 3 .. and at 2, 5 ..
        piece = isqrt(31 ** 2 + 39 ** 2 + 4)
        self.check(slow, "range(2, 2, distance(a, b))", (isqrt(29 ** 2 + 35 ** 2), piece))

    def test_numbers_and_what_is_made_of_them(self):
        held = sky()
        self.check(held, "range(3, 5, 7)", (7, 7))
        self.check(held, "range(3, 5, -7)", (-7, -7))
        self.check(held, "range(0, 100000, ((2 + 3) * (4 - 9)))", (-25, -25))
        self.times(held, 0, 9, "(1 < 2)", [(0, 9)], [])
        self.times(held, 0, 9, "(2 < 2)", [], [(0, 9)])
        self.times(held, 0, 9, "(2 <= 2)", [(0, 9)], [])
        self.times(held, 0, 9, "(2 > 2)", [], [(0, 9)])
        self.times(held, 0, 9, "(2 >= 2)", [(0, 9)], [])
        self.times(held, 0, 9, "(3 > 2)", [(0, 9)], [])
        self.times(held, 0, 9, "(1 >= 2)", [], [(0, 9)])

    def test_sums_differences_and_products(self):
        held = sky(glider("a", 0, (0, -6, -7), (0, 0, 0), 1), glider("b", 1, (0, -3, -1), (0, 0, 0), 1))
        self.check(held, "range(1, 5, (y(a) + y(b)))", (-11, -7))
        self.check(held, "range(1, 5, (y(a) - y(b)))", (-5, -1))
        self.check(held, "range(1, 5, (y(a) * y(b)))", (10, 28))
        self.check(held, "range(1, 5, (y(a) - y(a)))", (-2, 2))
        self.check(held, "range(1, 5, (z(b) * y(b)))", (0, 8))
        self.check(held, "range(0, 5, (y(a) + y(b)))", None)

    def test_comparisons_with_equal_ends(self):
        held = sky(glider("a", 0, (0, -6, 0), (0, 0, 0), 1))
        for text, answer in [
            ("(y(a) < -4)", "sure"), ("(y(a) < -5)", "unknown"), ("(y(a) < -6)", "unknown"),
            ("(y(a) < -7)", "impossible"), ("(y(a) <= -5)", "sure"), ("(y(a) <= -6)", "unknown"),
            ("(y(a) <= -7)", "unknown"),
            ("(y(a) <= -8)", "impossible"), ("(y(a) > -8)", "sure"), ("(y(a) > -7)", "unknown"),
            ("(y(a) > -6)", "unknown"), ("(y(a) > -5)", "impossible"), ("(y(a) >= -7)", "sure"),
            ("(y(a) >= -6)", "unknown"), ("(y(a) >= -5)", "unknown"), ("(y(a) >= -4)", "impossible"),
        ]:
            self.check(held, f"at(3, {text})", answer)


class FactTest(Test):
    def test_burning(self):
        burns = [Burn(5, 7, STILL), Burn(7, 9, STILL), Burn(20, 21, STILL)]
        held = sky(glider("a", 2), glider("b", 2, burns=burns[:1]), glider("c", 2, burns=burns),
                   glider("d", 5, burns=burns))
        self.times(held, 0, 30, "burning(a)", [], [(2, 30)])
        self.times(held, 0, 30, "burning(b)", [(5, 6)], [(2, 4), (7, 30)])
        self.times(held, 0, 30, "burning(c)", [(5, 8), (20, 20)], [(2, 4), (9, 19), (21, 30)])
        self.times(held, 0, 30, "burning(d)", [(5, 8), (20, 20)], [(9, 19), (21, 30)])
        self.times(held, 0, 1, "burning(c)", [], [])
        # What is known goes beyond the last tick where burns make it known.
        self.times(held, 0, 3, "burning(c)", [], [(2, 3)])
        self.times(held, 0, 6, "lately(2, burning(c))", [(5, 6)], [(4, 4)])
        self.check(held, "times(0, 3, !soon(2, burning(c)))", ([(2, 2)], [(3, 3)]))

    def test_burning_beyond_the_last_tick(self):
        held = sky(glider("a", 0, burns=[Burn(8, 12, STILL), Burn(20, 21, STILL)]))
        # The last tick is 3; the ticks ahead of the first burn, and between both, are known all the same.
        self.check(held, "at(3, !burning(a))", "sure")
        self.check(held, "at(99998, burning(a))", "impossible")
        late = sky(glider("a", 0, burns=[Burn(99999, 100000, STILL)]))
        self.check(late, "at(100000, ahead(5, !burning(a)))", "unknown")
        self.check(late, "at(100000, !burning(a))", "sure")
        self.check(late, "at(99999, burning(a))", "sure")
        self.check(late, "first(0, 100000, burning(a))", (False, 99999, 99999))

    def test_burning_tells_nothing_of_the_course(self):
        void = sky(glider("a", 0, (0, 0, 0), (0, 0, 0), 0, [Sighting(1, STILL)], [Burn(5, 6, STILL)]))
        self.times(void, 0, 9, "burning(a)", [(5, 5)], [(0, 4), (6, 9)])

    def test_same(self):
        held = sky(glider("a", 5), glider("b"))
        self.times(held, 0, 9, "same(a, a)", [(0, 9)], [])
        self.times(held, 0, 9, "same(a, b)", [], [(0, 9)])
        # It is known from tick 0 on, and up to the last tick.
        self.times(held, 0, 9, "lately(3, same(a, b))", [], [(3, 9)])
        self.times(held, 0, 9, "ahead(3, same(a, a))", [(0, 9)], [])
        self.check(held, "times(99998, 100000, ahead(1, same(a, a)))", ([(99998, 99999)], []))

    def test_sees(self):
        held = sky(glider("a", 2, (-30, -60, 0), (0, 5, 0)))
        # High enough for a mask of 0.6 from 40 beside on, at tick 6.
        for mask in ("600000000", "0600000000"):
            self.times(held, 0, 14, f"sees(a, s, {mask})", [(6, 14)], [(2, 5)])
        self.times(held, 0, 14, "sees(a, t, 600000000)", [(9, 14)], [(2, 8)])
        self.times(held, 0, 14, "sees(a, s, 0)", [(2, 14)], [])
        self.times(held, 0, 14, "sees(a, s, 0000000000)", [(2, 14)], [])
        self.times(held, 0, 14, "sees(a, s, 1000000000)", [(14, 14)], [(2, 13)])
        slow = sky(*held.crafts, stride=3)
        self.times(slow, 0, 14, "sees(a, s, 600000000)", [(8, 14)], [(2, 4)])
        self.nothing(held, "at(0, sees(a, s, 1000000001))", "sees")
        self.nothing(held, "at(0, sees(a, s, 00000000005))", "sees")
        self.nothing(held, "at(0, sees(a, s, 10000000000))", "sees")

    def test_ahead_of_the_start_and_behind_the_last_piece(self):
        void = sky(glider("a", 2, (-30, 0, 0), (0, 0, 0), 0, [Sighting(7, STILL)]), stride=2)
        for text in ("sees(a, s, 5)", "(y(a) < 5)", "(distance(a, a) <= 0)", "(radius(a) > 3)"):
            self.times(void, 0, 20, text, [(2, 5)], [])
            self.times(void, 0, 1, text, [], [])
            self.times(void, 6, 20, text, [], [])
            self.times(void, 0, 20, "!" + text, [], [(2, 5)])
        lost = sky(falling("a", 3))
        self.times(lost, 0, 20, "(x(a) > 0)", [(3, 3)], [(4, 4)])


def steps(many):
    """A craft that goes on by 1 along y at each tick, from -many on."""
    return glider("a", 0, (0, -many, 0), (0, 1, 0))


class ConditionTest(Test):
    def test_conditions_made_of_others(self):
        held = sky(glider("a", 0, (0, -20, 0), (0, 1, 0)), glider("b", 3, (0, -9, -9)))
        f, g = "(y(a) < -15)", "(y(b) < 0)"
        # f holds from 0 to 4, g from 3 on; ahead of that nothing is known of g.
        self.times(held, 0, 9, f, [(0, 4)], [(5, 9)])
        self.times(held, 0, 9, g, [(3, 9)], [])
        self.times(held, 0, 9, "!" + f, [(5, 9)], [(0, 4)])
        self.times(held, 0, 9, f"({f} & {g})", [(3, 4)], [(5, 9)])
        self.times(held, 0, 9, f"({f} | {g})", [(0, 9)], [])
        self.times(held, 0, 9, f"({f} | !{g})", [(0, 4)], [(5, 9)])
        self.times(held, 0, 9, f"soon(2, {f})", [(0, 4)], [(5, 9)])
        self.times(held, 0, 9, f"ahead(2, {f})", [(0, 2)], [(3, 9)])
        self.times(held, 0, 9, f"lately(2, {f})", [(0, 6)], [(7, 9)])
        self.times(held, 0, 9, f"behind(2, {f})", [(2, 4)], [(5, 9)])
        self.times(held, 0, 9, f"until(2, {f}, {g})", [(1, 4)], [(5, 9)])
        self.times(held, 0, 9, f"until(2, {g}, {f})", [(3, 4)], [(5, 9)])
        self.times(held, 0, 9, f"until(0, {f}, {g})", [(3, 4)], [(5, 9)])
        self.times(held, 0, 9, f"soon(5, !{f})", [(0, 9)], [])

    def test_ticks_below_0(self):
        held = sky(glider("a", 0, (0, -20, 0), (0, 1, 0)))
        f = "(y(a) < -15)"
        # Soon can hold below 0, where f is not known to.
        self.times(held, 0, 9, f"lately(5, soon(2, {f}))", [(0, 9)], [])
        self.times(held, 0, 9, f"behind(1, soon(2, {f}))", [(0, 4)], [(5, 9)])
        self.times(held, 0, 9, f"behind(2, {f})", [(2, 4)], [(5, 9)])

    def test_numbers_and_every_begin_at_tick_0(self):
        for text in ("(1 < 2)", "every(p, f())", "!some(p, f())"):
            self.times(sky(), 0, 9, f"behind(1, {text})", [(1, 9)], [])
            self.check(sky(), f"at(100000, ahead(1, {text}))", "unknown")
        # Soon holds below 0, but every is not known to.
        held = sky(glider("a", 0, (0, -20, 0)))
        self.times(held, 0, 9, "behind(1, every(p, soon(2, (y(p) < 0))))", [(1, 9)], [])

    def test_what_is_known_beyond_the_span_counts(self):
        held = sky(glider("a", 0, (0, -20, 0), (0, 1, 0)))
        self.times(held, 0, 3, "soon(4, (y(a) >= -15))", [(1, 3)], [(0, 0)])
        self.times(held, 0, 3, "ahead(1, (y(a) < -15))", [(0, 3)], [])
        self.times(held, 5, 6, "lately(4, (y(a) < -18))", [(5, 5)], [(6, 6)])

    def test_every_and_some(self):
        held = sky(glider("a", 0, (0, -20, 0), (0, 1, 0)), glider("b", 0, (0, -18, 0), (0, 1, 0)),
                   glider("c", 2, (0, -9, 0)))
        self.times(held, 0, 9, "every(p, (y(p) < -15))", [], [(2, 9)])
        self.times(held, 0, 9, "some(p, (y(p) < -15))", [(0, 4)], [(5, 9)])
        self.times(held, 0, 9, "every(p, (y(p) < -8))", [(2, 9)], [])
        self.times(held, 0, 9, "some(p, same(p, b))", [(0, 9)], [])
        self.times(held, 0, 9, "every(p, same(p, b))", [], [(0, 9)])
        self.times(held, 0, 9, "every(p, some(q, (y(q) >= (y(p) + 2))))", [], [(2, 9)])
        self.times(held, 2, 9, "some(p, every(q, (y(q) <= y(p))))", [(2, 9)], [])

    def test_many_names_that_are_not_used(self):
        crafts = [glider(f"c{number:02d}", 0, (0, -20 - number, 0)) for number in range(20)]
        held = sky(*crafts)
        inner = "(y(p) < -38)"
        for number in range(16):
            inner = f"{['some', 'every'][number % 2]}({'p' if number == 3 else 'q'}, {inner})"
        # The fourth one from within tells the name that is used.
        self.check(held, f"at(0, {inner})", "impossible")
        self.check(held, f"at(0, {inner.replace('every(p', 'some(p')})", "sure")
        self.nothing(held, "at(0, some(p, every(q, nonsense(r))))", "nonsense")

    def test_every_is_known_up_to_the_last_tick_alone(self):
        held = sky(glider("a", 0, (0, -20, 0), (0, 0, 0), 0, (), [Burn(0, 100000, STILL)]))
        # Burning goes beyond the last tick, 5; every does not.
        self.check(held, "at(5, every(p, burning(p)))", "sure")
        self.times(held, 0, 5, "lately(0, every(p, burning(p)))", [(0, 5)], [])

    def test_no_crafts(self):
        none = sky()
        self.times(none, 0, 9, "every(p, (x(p) < 5))", [(0, 9)], [])
        self.times(none, 0, 9, "some(p, (x(p) < 5))", [], [(0, 9)])
        self.times(none, 0, 9, "every(p, nonsense(7))", [(0, 9)], [])
        self.times(none, 0, 9, "some(p, (x(a) < nonsense()))", [], [(0, 9)])
        self.check(none, "each(p, at(0, (x(p) < nonsense(p))))", [])
        self.check(none, "each(p, each(q, range(0, 1, x(p))))", [])
        self.nothing(none, "at(0, (every(p, burning(p)) & burning(a)))", "burning")
        with self.assertRaises(BadQuestion):
            ask(none, "each(p, at(0, x))")

    def test_against_the_words_of_the_points(self):
        rng = random.Random(28)
        burns = [Burn(4, 7, ((0, 0), (-1, 0), (0, 0))), Burn(7, 8, STILL)]
        crafts = [glider("a", 0, (-30, -60, -9), (0, 5, 0), 2),
                  glider("b", 3, (-20, -40, -20), (1, 2, 1), 1, (), burns),
                  glider("c", 1, (-20, -40, -20), (0, 1, 1), 0, [Sighting(9, STILL)])]

        def quantity(depth):
            kind = rng.randint(0, 5 if depth else 3)
            if kind == 0:
                return str(rng.randint(-70, 10))
            if kind < 3:
                return f"{rng.choice(['x', 'y', 'z', 'radius'])}({rng.choice('abcp')})"
            if kind == 3:
                return f"distance({rng.choice('abcp')}, {rng.choice('abcp')})"
            return f"({quantity(depth - 1)} {rng.choice('+-*')} {quantity(depth - 1)})"

        def condition(depth):
            kind = rng.randint(0, 9) if depth else rng.choice([0, 1, 2])
            if kind == 0:
                return f"({quantity(1)} {rng.choice(['<', '<=', '>', '>='])} {quantity(1)})"
            if kind == 1:
                return f"sees({rng.choice('abcp')}, s, {rng.randint(0, 10 ** 9)})"
            if kind == 2:
                return rng.choice([f"burning({rng.choice('abcp')})", f"same(p, {rng.choice('abc')})"])
            if kind == 3:
                return f"!{condition(depth - 1)}"
            if kind < 6:
                return f"({condition(depth - 1)} {rng.choice('&|')} {condition(depth - 1)})"
            if kind == 6:
                return f"until({rng.randint(0, 4)}, {condition(depth - 1)}, {condition(depth - 1)})"
            if kind == 7:
                return f"{rng.choice(['some', 'every'])}({rng.choice('pa')}, {condition(depth - 1)})"
            word = rng.choice(["soon", "ahead", "lately", "behind"])
            return f"{word}({rng.randint(0, 4)}, {condition(depth - 1)})"

        known = 0
        for number in range(120):
            held = sky(*crafts, stride=rng.randint(1, 3), fineness=number % 2)
            text = f"some(p, {condition(3)})"
            begin = rng.randint(0, 6)
            end = begin + rng.choice([0, rng.randint(0, 12)])
            wanted = slow_answers(held, begin, end, text)
            for word, answer in wanted.items():
                self.assertEqual(ask(held, f"{word}({begin}, {end}, {text})"), answer, (word, text))
            if begin == end:
                self.assertEqual(ask(held, f"at({end}, {text})"), wanted["throughout"], text)
            known += bool(wanted["times"][0]) + bool(wanted["times"][1])
        self.assertGreater(known, 40)


class NamesTest(Test):
    def test_the_innermost_counts(self):
        held = sky(glider("a", 0, (0, -20, 0)), glider("b", 0, (0, -10, 0)))
        self.check(held, "each(p, at(0, some(p, same(p, a))))", [("a", "sure"), ("b", "sure")])
        self.check(held, "each(p, at(0, (same(p, a) & some(p, same(p, b)))))", [("a", "sure"), ("b", "impossible")])
        self.check(held, "each(p, at(0, every(p, some(p, same(p, b)))))", [("a", "sure"), ("b", "sure")])
        self.check(held, "each(p, each(p, range(0, 0, y(p))))", [
            ("a", [("a", (-20, -20)), ("b", (-10, -10))]), ("b", [("a", (-20, -20)), ("b", (-10, -10))])])

    def test_names_of_crafts_that_are_told(self):
        held = sky(glider("a", 0, (0, -20, 0)), glider("b", 0, (0, -10, 0)))
        # Behind some(a, ..) a stands for each craft; the name of the craft that comes out is not replaced again.
        self.check(held, "each(a, range(0, 0, y(a)))", [("a", (-20, -20)), ("b", (-10, -10))])
        self.check(held, "each(a, range(0, 0, y(b)))", [("a", (-10, -10)), ("b", (-10, -10))])
        self.check(held, "each(a, each(b, range(0, 0, (y(a) - y(b)))))", [
            ("a", [("a", (0, 0)), ("b", (-10, -10))]), ("b", [("a", (10, 10)), ("b", (0, 0))])])
        self.times(held, 0, 1, "some(b, (same(a, b) & (y(b) < -15)))", [(0, 1)], [])
        self.check(held, "at(0, some(a, every(b, same(a, b))))", "impossible")

    def test_a_name_where_a_site_or_a_mask_stands(self):
        crafts = [glider("5", 0, (-30, -40, 0)), glider("600000001", 0, (-30, -50, 0)), glider("s", 0, (-30, 0, 0))]
        held = sky(*crafts)
        # In place of the mask: for the craft "s" there is none.
        self.nothing(held, "each(p, at(0, sees(5, s, p)))", "sees")
        two = sky(*crafts[:2])
        self.check(two, "each(p, at(0, sees(5, s, p)))", [("5", "sure"), ("600000001", "impossible")])
        self.check(two, "each(p, at(0, some(q, sees(q, s, p))))", [("5", "sure"), ("600000001", "impossible")])
        # In place of the site.
        one = sky(crafts[2])
        self.check(one, "each(p, at(0, sees(p, p, 7)))", [("s", "sure")])
        self.check(one, "at(0, every(p, sees(s, p, 7)))", "sure")
        self.nothing(held, "at(0, some(p, sees(s, p, 7)))", "sees")
        # A name that is told hides the site and the mask of this name.
        self.nothing(two, "at(0, some(s, sees(5, s, 7)))", "sees")
        self.check(two, "each(7, at(0, sees(5, s, 7)))", [("5", "sure"), ("600000001", "impossible")])

    def test_words_are_not_replaced(self):
        held = sky(glider("a", 0, (0, -20, 0)))
        self.check(held, "each(y, range(0, 0, y(y)))", [("a", (-20, -20))])
        self.check(held, "at(0, some(same, same(same, a)))", "sure")


class NothingKnownTest(Test):
    HELD = sky(glider("a", 0, (-30, -20, 0)), glider("b", 0, (-30, -10, 0)))

    def test_each_cause(self):
        for word in ("x", "y", "z", "radius"):
            self.nothing(self.HELD, f"range(0, 0, {word}(c))", word)
            self.nothing(self.HELD, f"range(0, 0, {word}(s))", word)
            self.nothing(self.HELD, f"range(0, 0, {word}())", word)
            self.nothing(self.HELD, f"range(0, 0, {word}(a, b))", word)
        for names in ("a, c", "c, a", "a", "", "a, b, a"):
            self.nothing(self.HELD, f"range(0, 0, distance({names}))", "distance")
            self.nothing(self.HELD, f"at(0, same({names}))", "same")
        for names in ("c", "s", "", "a, b"):
            self.nothing(self.HELD, f"at(0, burning({names}))", "burning")
        for names in ("c, s, 5", "a, c, 5", "a, a, 5", "a, s, m", "a, s, 5a", "a, s", "", "a, s, 5, 5", "s, s, 5",
                      "a, s, 1000000001", "a, s, 00000000001", "a, s, 999999999999", "a, s, _", "a, s, a"):
            self.nothing(self.HELD, f"at(0, sees({names}))", "sees")

    def test_words_that_are_not_known(self):
        for word in ("w", "speed", "soon", "at", "each", "sees", "burning", "same", "some", "until", "range"):
            self.nothing(self.HELD, f"range(0, 0, {word}(a))", word)
            self.nothing(self.HELD, f"at(0, ({word}(a, b, a) < 5))", word)
        for word in ("x", "radius", "distance", "at", "times", "range", "each", "f", "first", "never"):
            self.nothing(self.HELD, f"at(0, {word}(a))", word)
            self.nothing(self.HELD, f"at(0, {word}())", word)

    def test_the_first_one_that_is_looked_at(self):
        for text, word in [
            ("(f() & g())", "f"), ("(f() | g())", "f"), ("(burning(a) & g())", "g"), ("until(3, f(), g())", "f"),
            ("until(3, burning(a), g())", "g"), ("(x(c) < y(c))", "x"), ("(x(c) <= y(c))", "x"), ("(x(c) > y(c))", "y"),
            ("(x(c) >= y(c))", "y"), ("(x(c) > y(a))", "x"), ("(x(a) >= y(c))", "y"), ("!(f() & g())", "f"),
            ("((x(c) + y(c)) < z(c))", "x"), ("((x(c) + y(c)) > z(c))", "z"), ("(3 > (x(c) * y(c)))", "x"),
            ("((y(c) - x(c)) >= 3)", "y"), ("(soon(1, f()) & g())", "f"), ("((f() & g()) & h())", "f"),
            ("(some(p, f(p)) & g())", "f"), ("every(p, (g(p) | f(p)))", "g"),
            ("(same(a, b) & (same(c, b) & f()))", "same"),
        ]:
            for form in ("at(0, {})", "never(0, 5, {})", "each(p, rises(0, 5, {}))"):
                self.nothing(self.HELD, form.format(text), word)

    def test_crafts_in_order(self):
        # For the craft "7" it is the site that is not there, for the craft "s" the mask.
        first = sky(glider("7", 0, (-30, 0, 0)), glider("s", 0, (-30, 0, 0)))
        text = "(sees(7, p, 7) & (sees(s, s, p) & same(c, p)))"
        self.nothing(first, f"at(0, every(p, {text}))", "sees")
        text = "(sees(7, s, p) & same(c, p))"
        self.nothing(first, f"each(p, at(0, {text}))", "same")
        self.nothing(first, f"at(0, some(p, {text}))", "same")
        second = sky(glider("a", 0, (-30, 0, 0)), glider("b", 0, (-30, 0, 0)), sites=[Site("b", (-FAR, 0, 0))])
        # For a it is sees, which has no site of this name; for b all is known, but then same.
        self.nothing(second, "at(0, some(p, (sees(a, p, 7) & same(c, p))))", "sees")
        self.nothing(second, "at(0, some(p, (sees(a, b, 7) & same(c, p))))", "same")

    def test_a_bad_question_stands_ahead(self):
        for text, offset in [("at(0, f()", 9), ("at(5, 6, f())", 0), ("throughout(5, 4, f())", 0), ("f()", 0), ("", 0),
                             ("at(0, x(c))?", 11), ("at(0, (x(c) < 5) & f())", 17), (" " * 1001, 1000)]:
            with self.assertRaises(BadQuestion) as caught:
                ask(self.HELD, text)
            self.assertEqual(caught.exception.offset, offset)


class QuestionTest(Test):
    HELD = sky(steps(20))

    def test_throughout_at_never_and_sometime(self):
        f = "(y(a) < -15)"
        unknown = "(y(b) < -15)"
        two = sky(steps(20), glider("b", 3, (0, -15, 0), (0, 0, 0), 1))
        for span, throughout, sometime in [
            ("0, 4", "sure", "sure"), ("0, 5", "impossible", "sure"), ("5, 9", "impossible", "impossible"),
            ("4, 4", "sure", "sure"),
        ]:
            self.check(two, f"throughout({span}, {f})", throughout)
            self.check(two, f"sometime({span}, {f})", sometime)
            never = {"sure": "impossible", "impossible": "sure"}[sometime]
            self.check(two, f"never({span}, {f})", never)
            for word in ("throughout", "sometime", "never"):
                self.check(two, f"{word}({span}, {unknown})", "unknown")
        self.check(two, f"at(4, {f})", "sure")
        self.check(two, f"at(5, {f})", "impossible")
        self.check(two, f"at(5, {unknown})", "unknown")

    def test_first(self):
        self.check(self.HELD, "first(0, 9, (y(a) >= -15))", (False, 5, 5))
        self.check(self.HELD, "first(7, 9, (y(a) >= -15))", (False, 7, 7))
        self.check(self.HELD, "first(0, 4, (y(a) >= -15))", (True, None, None))
        self.check(self.HELD, "first(0, 5, (y(a) >= -15))", (False, 5, 5))
        wide = sky(glider("a", 0, (0, -20, 0), (0, 1, 0), 2))
        self.check(wide, "first(0, 9, (y(a) >= -15))", (False, 3, 7))
        self.check(wide, "first(0, 6, (y(a) >= -15))", (False, 3, None))
        late = sky(glider("a", 3, (0, -20, 0)))
        self.check(late, "first(0, 9, (y(a) < 0))", (False, 0, 3))
        self.check(late, "first(0, 9, (y(a) >= 0))", (False, 0, None))
        self.check(late, "first(3, 9, (y(a) >= 0))", (True, None, None))

    def test_rises(self):
        burns = [Burn(2, 4, STILL), Burn(6, 8, STILL), Burn(8, 9, STILL)]
        held = sky(glider("a", 0, burns=burns))
        for span, many in [("0, 20", 2), ("2, 20", 1), ("1, 6", 2), ("1, 5", 1), ("3, 5", 0), ("6, 20", 0)]:
            self.check(held, f"rises({span}, burning(a))", many)
        self.check(held, "rises(0, 20, !burning(a))", 2)

    def test_times(self):
        self.times(self.HELD, 2, 9, "(y(a) < -15)", [(2, 4)], [(5, 9)])
        self.times(self.HELD, 5, 9, "(y(a) < -15)", [], [(5, 9)])
        told = ask(self.HELD, "times(2, 9, (y(a) < -15))")
        told[0].append(1)
        self.times(self.HELD, 2, 9, "(y(a) < -15)", [(2, 4)], [(5, 9)])

    def test_each(self):
        held = sky(steps(20), glider("b", 3, (0, -15, 0)))
        self.check(held, "each(p, at(4, (y(p) < -15)))", [("a", "sure"), ("b", "impossible")])
        self.check(held, "each(p, range(2, 4, y(p)))", [("a", (-18, -16)), ("b", None)])
        self.check(held, "each(p, first(0, 9, (y(p) >= -15)))", [("a", (False, 5, 5)), ("b", (False, 0, 3))])
        self.check(held, "each(p, times(0, 4, same(p, b)))", [("a", ([], [(0, 4)])), ("b", ([(0, 4)], []))])
        self.check(held, "each(p, rises(0, 9, (y(p) >= -15)))", [("a", 1), ("b", 0)])
        self.check(held, "each(p, each(q, range(3, 3, (y(p) - y(q)))))", [
            ("a", [("a", (0, 0)), ("b", (-2, -2))]), ("b", [("a", (2, 2)), ("b", (0, 0))])])

    def test_the_last_tick(self):
        # The course goes up to the last tick: a reach that is too short would leave it open.
        self.check(self.HELD, "at(0, soon(7, (y(a) >= -13)))", "sure")
        self.check(self.HELD, "at(0, soon(6, (y(a) >= -13)))", "impossible")
        self.check(self.HELD, "at(0, ahead(7, (y(a) <= -13)))", "sure")
        self.check(self.HELD, "at(0, until(7, (y(a) <= -13), (y(a) >= -13)))", "sure")
        self.check(self.HELD, "at(0, soon(3, soon(4, (y(a) >= -13))))", "sure")
        # Lately reaches no further: nothing is known of a behind the last tick.
        self.check(self.HELD, "times(0, 3, soon(2, lately(1, (y(a) < 0))))", ([(0, 3)], []))

    def test_the_latest_ticks(self):
        held = sky(glider("a", 99990, (0, -20, 0), (0, 1, 0)), glider("b", 99995, (0, -20, 0)), stride=4)
        self.times(held, 99980, 100000, "(y(a) < -15)", [(99990, 99993)], [(99998, 100000)])
        self.times(held, 99980, 100000, "(y(b) < -15)", [(99995, 100000)], [])
        # The pieces are not cut at the last tick; numbers and passes end there.
        self.check(held, "at(100000, ahead(2, (y(b) <= y(b))))", "sure")
        self.check(held, "at(100000, ahead(3, (y(b) <= y(b))))", "unknown")
        self.check(held, "at(100000, ahead(1, (y(b) < 0)))", "unknown")
        self.check(held, "at(100000, ahead(1, sees(b, s, 0)))", "unknown")
        self.check(held, "at(100000, soon(100000, (y(a) < 0)))", "sure")
        self.check(held, "at(100000, ahead(1, (1 < 2)))", "unknown")
        self.check(held, "range(99990, 100000, y(a))", (-20, -9))
        self.check(held, "first(0, 100000, burning(b))", (False, 0, None))

    def test_a_long_course(self):
        held = sky(glider("a", 0, (-9 * 10 ** 5, -10 ** 6, 0), (1, 0, 0)), stride=100)
        # It is so from tick 50050 on; the pieces around that begin at 50000 and at 50100.
        self.check(held, "first(0, 100000, (x(a) >= -1000000849950))", (False, 50000, 50100))
        self.check(held, "rises(0, 100000, (x(a) >= -1000000849950))", 1)
        self.check(held, "throughout(0, 100000, sees(a, s, 1))", "sure")
        self.check(held, "range(0, 100000, x(a))", (-FAR - 9 * 10 ** 5, -FAR - 9 * 10 ** 5 + 100099))


class MotionsTest(Test):
    def test_answers_are_right(self):
        """Points [77]: whatever the motions are that obey the data."""
        rng = random.Random(29)
        body = Body(10 ** 9, 0, (0, 1, 1))
        crafts = [orbiter("a", 3), Craft("b", 0, cube(10030, -160, -262, 6), cube(-8, 290, 18, 2), 1)]
        site = Site("s", (9000, 500, 100))
        texts = {
            "(x(a) < 9950)": lambda at, p, q: p[0] < 9950,
            "(y(a) >= (y(b) - 100))": lambda at, p, q: p[1] >= q[1] - 100,
            "(radius(a) <= 10100)": lambda at, p, q: isqrt(sum(c * c for c in p)) <= 10100,
            "(distance(a, b) < 600)": lambda at, p, q: isqrt(sum((c - d) ** 2 for c, d in zip(p, q))) < 600,
            "sees(a, s, 300000000)": lambda at, p, q: stands_high(
                p, [low for low, _ in site_at(body, site, at)], 3 * 10 ** 8),
            "some(p, (z(p) > -240))": lambda at, p, q: p[2] > -240 or q[2] > -240,
        }
        known = 0
        for number in range(6):
            held = Contents(body, 1 + number % 3, number % 3, crafts, [site])
            motions = [(obeying_motion(rng, body, crafts[0], 25), obeying_motion(rng, body, crafts[1], 25))
                       for _ in range(5)]
            for text, holds in texts.items():
                yes, no = ask(held, f"times(3, 20, {text})")
                told = ask(held, f"first(3, 20, {text})")
                many = ask(held, f"rises(3, 20, {text})")
                soon = ask(held, f"times(3, 15, soon(4, {text}))")
                known += len(yes) + len(no)
                for one, two in motions:
                    truth = {at: holds(at, one[at - 3][0], two[at][0]) for at in range(3, 21)}
                    for at, held_there in truth.items():
                        if any(begin <= at <= end for begin, end in yes):
                            self.assertTrue(held_there)
                        if any(begin <= at <= end for begin, end in no):
                            self.assertFalse(held_there)
                    for at in range(3, 16):
                        later = any(truth[k] for k in range(at, at + 5))
                        if any(begin <= at <= end for begin, end in soon[0]):
                            self.assertTrue(later)
                        if any(begin <= at <= end for begin, end in soon[1]):
                            self.assertFalse(later)
                    first = min([at for at in truth if truth[at]], default=None)
                    if told[0]:
                        self.assertIsNone(first)
                    elif told[2] is not None:
                        self.assertTrue(told[1] <= first <= told[2])
                    self.assertLessEqual(many, sum(truth[at] and not truth[at - 1] for at in range(4, 21)))
                for word in ("x", "y", "z"):
                    low, high = ask(held, f"range(3, 20, {word}(a))")
                    for one, _ in motions:
                        places = [one[at - 3][0]["xyz".index(word)] for at in range(3, 21)]
                        self.assertTrue(low <= min(places) and max(places) <= high)
        self.assertGreater(known, 30)


if __name__ == "__main__":
    unittest.main()
