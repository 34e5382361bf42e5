"""Points [68] to [70] and, as to lines, [75]: spans, and what is known of conditions made of others."""

import itertools
import random
import unittest

from orrery.questions.spans import (
    ahead, behind, both, common, earlier_begins, earlier_ends, either, first_tick, joined, lately, later_begins,
    later_ends, negated, rises, soon, throughout, until,
)

NOTHING = ([], [])


def ticks_of(spans):
    return {at for begin, end in spans for at in range(begin, end + 1)}


def spans_of(ticks):
    """The longest spans of neighbouring ticks."""
    spans = []
    for at in sorted(ticks):
        if spans and spans[-1][1] == at - 1:
            spans[-1] = (spans[-1][0], at)
        else:
            spans.append((at, at))
    return spans


def some_spans(rng, many=5, least=-9, most=25, longest=6):
    """Spans in any order, some of them empty."""
    told = []
    for _ in range(rng.randint(0, many)):
        begin = rng.randint(least, most)
        told.append((begin, begin + rng.randint(-2, longest)))
    return told


def some_line(rng):
    """A line that can be: no tick is in a span of yes and in one of no."""
    yes = some_spans(rng)
    no = [span for span in some_spans(rng) if not ticks_of([span]) & ticks_of(yes)]
    return yes, no


class JoinedTest(unittest.TestCase):
    def test_by_the_numbers(self):
        for spans, wanted in [
            ([], []), ([(3, 2)], []), ([(3, 3)], [(3, 3)]), ([(5, 9), (0, 3)], [(0, 3), (5, 9)]),
            ([(0, 3), (4, 9)], [(0, 9)]), ([(4, 9), (0, 3)], [(0, 9)]), ([(0, 5), (3, 9)], [(0, 9)]),
            ([(0, 9), (3, 5)], [(0, 9)]), ([(0, 9), (0, 5)], [(0, 9)]), ([(0, 5), (0, 9)], [(0, 9)]),
            ([(0, 9), (3, 5), (8, 12), (14, 15), (13, 12)], [(0, 12), (14, 15)]), ([(-5, -3), (-2, 0)], [(-5, 0)]),
            ([(0, 9), (3, 3), (10, 10)], [(0, 10)]), ([(4, 4), (4, 4)], [(4, 4)]), ([(0, 1), (5, 3), (2, 4)], [(0, 4)]),
        ]:
            kept = list(spans)
            self.assertEqual(joined(spans), wanted)
            self.assertEqual(spans, kept)

    def test_as_the_ticks(self):
        rng = random.Random(20)
        for _ in range(500):
            spans = some_spans(rng, 9)
            self.assertEqual(joined(spans), spans_of(ticks_of(spans)))


class CommonTest(unittest.TestCase):
    def test_by_the_numbers(self):
        self.assertEqual(common([(0, 9)], [(3, 5)]), [(3, 5)])
        self.assertEqual(common([(0, 4)], [(5, 9)]), [])
        self.assertEqual(common([(0, 4)], [(4, 9)]), [(4, 4)])
        self.assertEqual(common([(0, 4)], []), [])
        self.assertEqual(common([], [(0, 4)]), [])
        self.assertEqual(common([(0, 9)], [(7, 12), (5, 4), (-3, 1)]), [(7, 9), (0, 1)])
        # They are neither sorted nor joined.
        self.assertEqual(common([(6, 9), (0, 5)], [(4, 7), (0, 9)]), [(6, 7), (6, 9), (4, 5), (0, 5)])
        self.assertEqual(common([(3, 2)], [(0, 9)]), [])

    def test_in_order(self):
        rng = random.Random(21)
        for _ in range(800):
            first, second = some_spans(rng, 8), some_spans(rng, 8)
            if rng.random() < 0.3:
                first, second = joined(first), joined(second)
            wanted = []
            for (a, b), (c, d) in itertools.product(first, second):
                if set(range(a, b + 1)) & set(range(c, d + 1)):
                    wanted.append((max(a, c), min(b, d)))
            kept = (list(first), list(second))
            self.assertEqual(common(first, second), wanted)
            self.assertEqual((first, second), kept)

    def test_very_many(self):
        first = [(2 * k, 2 * k) for k in range(50000)]
        second = [(3 * k, 3 * k + 1) for k in range(33000)]
        told = common(first, second)
        self.assertEqual(told[:4], [(0, 0), (4, 4), (6, 6), (10, 10)])
        self.assertEqual(len(told), 33000)


class ShiftsTest(unittest.TestCase):
    def test_by_the_numbers(self):
        spans = [(7, 9), (0, 3), (4, 2)]
        self.assertEqual(earlier_begins(spans, 0), [(0, 3), (7, 9)])
        self.assertEqual(earlier_begins(spans, 2), [(-2, 3), (5, 9)])
        self.assertEqual(earlier_begins(spans, 3), [(-3, 9)])
        self.assertEqual(later_ends(spans, 0), [(0, 3), (7, 9)])
        self.assertEqual(later_ends(spans, 2), [(0, 5), (7, 11)])
        self.assertEqual(later_ends(spans, 3), [(0, 12)])
        self.assertEqual(earlier_ends(spans, 0), [(0, 3), (7, 9)])
        self.assertEqual(earlier_ends(spans, 2), [(0, 1), (7, 7)])
        self.assertEqual(earlier_ends(spans, 3), [(0, 0)])
        self.assertEqual(earlier_ends(spans, 4), [])
        self.assertEqual(later_begins(spans, 0), [(0, 3), (7, 9)])
        self.assertEqual(later_begins(spans, 2), [(2, 3), (9, 9)])
        self.assertEqual(later_begins(spans, 3), [(3, 3)])
        self.assertEqual(later_begins(spans, 4), [])
        self.assertEqual(earlier_begins([(-5, -5)], 100000), [(-100005, -5)])

    def test_spans_are_joined_first(self):
        parts = [(4, 6), (0, 3)]
        self.assertEqual(earlier_ends(parts, 2), [(0, 4)])
        self.assertEqual(later_begins(parts, 2), [(2, 6)])
        self.assertEqual(parts, [(4, 6), (0, 3)])

    def test_as_the_ticks(self):
        rng = random.Random(22)
        for _ in range(300):
            spans, d = some_spans(rng, 7), rng.randint(0, 6)
            held = ticks_of(spans)
            near = range(-40, 60)
            later = lambda at: range(at, at + d + 1)
            earlier = lambda at: range(at - d, at + 1)
            self.assertEqual(earlier_begins(spans, d), spans_of(at for at in near if held & set(later(at))))
            self.assertEqual(later_ends(spans, d), spans_of(at for at in near if held & set(earlier(at))))
            self.assertEqual(earlier_ends(spans, d), spans_of(at for at in near if held >= set(later(at))))
            self.assertEqual(later_begins(spans, d), spans_of(at for at in near if held >= set(earlier(at))))


LINE = ([(0, 3), (8, 9)], [(5, 6), (12, 20)])
OTHER = ([(2, 5), (9, 12)], [(0, 0), (14, 15)])


class LinesTest(unittest.TestCase):
    def test_negated(self):
        self.assertEqual(negated(LINE), (LINE[1], LINE[0]))
        told = negated(LINE)
        told[0].append(1)
        self.assertEqual(LINE[1], [(5, 6), (12, 20)])
        self.assertEqual(negated(NOTHING), NOTHING)

    def test_both_and_either(self):
        self.assertEqual(both(LINE, OTHER), ([(2, 3), (9, 9)], [(0, 0), (5, 6), (12, 20)]))
        self.assertEqual(either(LINE, OTHER), ([(0, 5), (8, 12)], [(14, 15)]))
        self.assertEqual(both(LINE, NOTHING), ([], [(5, 6), (12, 20)]))
        self.assertEqual(either(NOTHING, LINE), ([(0, 3), (8, 9)], []))
        # What comes out is joined.
        parts = ([(5, 9), (0, 4)], [(20, 21), (15, 19)])
        self.assertEqual(both(parts, ([(0, 9)], [])), ([(0, 9)], [(15, 21)]))
        self.assertEqual(either(parts, ([], [(15, 30)])), ([(0, 9)], [(15, 21)]))

    def test_soon_ahead_lately_and_behind(self):
        self.assertEqual(soon(1, LINE), ([(-1, 3), (7, 9)], [(5, 5), (12, 19)]))
        self.assertEqual(ahead(1, LINE), ([(0, 2), (8, 8)], [(4, 6), (11, 20)]))
        self.assertEqual(lately(1, LINE), ([(0, 4), (8, 10)], [(6, 6), (13, 20)]))
        self.assertEqual(behind(1, LINE), ([(1, 3), (9, 9)], [(5, 7), (12, 21)]))
        for shift in (soon, ahead, lately, behind):
            self.assertEqual(shift(0, LINE), LINE)
            self.assertEqual(shift(7, NOTHING), NOTHING)
        self.assertEqual(soon(100000, LINE)[0], [(-100000, 9)])

    def test_until_yes(self):
        held = ([(10, 20)], [])
        for met, wanted in [
            ((21, 30), []), ((20, 30), [(15, 20)]), ((15, 20), [(10, 20)]), ((17, 18), [(12, 18)]), ((9, 9), []),
            ((9, 10), [(10, 10)]), ((0, 40), [(10, 20)]), ((0, 9), []), ((16, 20), [(11, 20)]), ((10, 10), [(10, 10)]),
        ]:
            self.assertEqual(until(5, held, ([met], [])), (wanted, []), met)
        self.assertEqual(until(0, held, ([(15, 25)], [])), ([(15, 20)], []))
        # Spans of the first that touch are one.
        parts = ([(16, 20), (10, 15)], [])
        self.assertEqual(until(9, parts, ([(18, 18)], [])), ([(10, 18)], []))
        self.assertEqual(until(9, ([(10, 15), (17, 20)], []), ([(18, 18)], [])), ([(17, 18)], []))
        self.assertEqual(until(1, held, ([(12, 12), (19, 19)], [])), ([(11, 12), (18, 19)], []))

    def test_until_no(self):
        # It cannot hold where the first does not, nor where the second does not hold within the ticks.
        self.assertEqual(until(3, ([], [(5, 6)]), NOTHING), ([], [(5, 6)]))
        self.assertEqual(until(3, NOTHING, ([], [(0, 9)])), ([], [(0, 6)]))
        self.assertEqual(until(30, NOTHING, ([], [(0, 9)])), ([], []))
        # From 2 on the second does not hold up to a tick at which the first does not.
        self.assertEqual(until(30, ([], [(7, 8)]), ([], [(2, 9)])), ([], [(2, 8)]))
        self.assertEqual(until(30, ([], [(7, 12)]), ([], [(2, 9)])), ([], [(2, 12)]))
        self.assertEqual(until(30, ([], [(9, 12)]), ([], [(2, 9)])), ([], [(2, 12)]))
        self.assertEqual(until(30, ([], [(10, 12)]), ([], [(2, 9)])), ([], [(10, 12)]))
        self.assertEqual(until(30, ([], [(0, 1)]), ([], [(2, 9)])), ([], [(0, 1)]))
        self.assertEqual(until(30, ([], [(0, 2)]), ([], [(2, 9)])), ([], [(0, 2)]))
        # Spans of no of the second that touch are one.
        self.assertEqual(until(30, ([], [(8, 8)]), ([], [(5, 9), (2, 4)])), ([], [(2, 8)]))
        self.assertEqual(until(30, ([], [(8, 8)]), ([], [(6, 9), (2, 4)])), ([], [(6, 8)]))

    def test_until_in_the_words_of_the_point(self):
        rng = random.Random(23)
        for _ in range(600):
            f, g, d = some_line(rng), some_line(rng), rng.randint(0, 8)
            yes = [(max(s[0], t[0] - d), min(s[1], t[1])) for s in joined(f[0]) for t in joined(g[0]) if t[0] <= s[1]]
            no = f[1] + earlier_ends(g[1], d)
            no += [(s[0], min(s[1], t[1])) for s in joined(g[1]) for t in f[1] if ticks_of([s]) & ticks_of([t])]
            self.assertEqual(until(d, f, g), (joined(yes), joined(no)))

    def test_what_holds_tick_by_tick(self):
        """Whatever holds at the ticks of which nothing is known, yes and no are right."""
        rng = random.Random(24)
        span = range(-60, 90)
        for _ in range(150):
            f, g, d = some_line(rng), some_line(rng), rng.randint(0, 6)
            made = {
                "not": negated(f), "and": both(f, g), "or": either(f, g), "soon": soon(d, f), "ahead": ahead(d, f),
                "lately": lately(d, f), "behind": behind(d, f), "until": until(d, f, g),
            }
            for _ in range(4):
                fs, gs = [{at for at in span if at in ticks_of(yes) or at not in ticks_of(no) and rng.random() < 0.5}
                          for yes, no in (f, g)]
                for at in range(-45, 75):
                    later, earlier = range(at, at + d + 1), range(at - d, at + 1)
                    holds = {
                        "not": at not in fs, "and": at in fs and at in gs, "or": at in fs or at in gs,
                        "soon": any(k in fs for k in later), "ahead": all(k in fs for k in later),
                        "lately": any(k in fs for k in earlier), "behind": all(k in fs for k in earlier),
                        "until": any(k in gs and all(j in fs for j in range(at, k + 1)) for k in later),
                    }
                    for word, (yes, no) in made.items():
                        if any(begin <= at <= end for begin, end in yes):
                            self.assertTrue(holds[word], (word, f, g, d, at))
                        if any(begin <= at <= end for begin, end in no):
                            self.assertFalse(holds[word], (word, f, g, d, at))

    def test_what_is_handed_in_stays(self):
        f, g = ([(5, 7), (0, 3)], [(20, 22), (9, 12)]), ([(6, 9), (1, 2)], [(30, 33), (20, 25)])
        made = [shift(2, f) for shift in (soon, ahead, lately, behind)]
        for line in made + [negated(f), both(f, g), either(f, g), until(2, f, g)]:
            line[0].append((0, 0))
            line[1].append((0, 0))
        self.assertEqual(f, ([(5, 7), (0, 3)], [(20, 22), (9, 12)]))
        self.assertEqual(g, ([(6, 9), (1, 2)], [(30, 33), (20, 25)]))


class ThroughoutTest(unittest.TestCase):
    def test_by_the_numbers(self):
        for begin, end, wanted in [
            (0, 3, "sure"), (1, 2, "sure"), (0, 4, "unknown"), (-1, 3, "unknown"), (4, 4, "unknown"), (3, 3, "sure"),
            (3, 5, "impossible"), (6, 8, "impossible"), (7, 8, "unknown"), (7, 11, "unknown"), (7, 12, "impossible"),
            (20, 30, "impossible"), (21, 30, "unknown"), (-9, 99, "impossible"), (-9, -1, "unknown"),
        ]:
            self.assertEqual(throughout(LINE, begin, end), wanted, (begin, end))

    def test_spans_of_yes_are_joined(self):
        self.assertEqual(throughout(([(4, 6), (0, 3)], []), 0, 6), "sure")
        self.assertEqual(throughout(([(5, 6), (0, 3)], []), 0, 6), "unknown")

    def test_sure_counts_first(self):
        self.assertEqual(throughout(([(0, 9)], [(4, 4)]), 3, 5), "sure")
        self.assertEqual(throughout(([(0, 3)], [(4, 4)]), 3, 5), "impossible")

    def test_empty_spans_have_no_tick(self):
        self.assertEqual(throughout(([], [(4, 3)]), 0, 9), "unknown")


class FirstTickTest(unittest.TestCase):
    def test_by_the_numbers(self):
        line = ([(10, 12), (20, 25)], [(0, 5), (8, 8)])
        for begin, end, wanted in [
            (0, 30, (False, 6, 10)), (0, 5, (True, None, None)), (0, 6, (False, 6, None)), (2, 9, (False, 6, None)),
            (2, 10, (False, 6, 10)), (6, 30, (False, 6, 10)), (8, 30, (False, 9, 10)), (8, 8, (True, None, None)),
            (7, 30, (False, 7, 10)), (11, 30, (False, 11, 11)), (12, 12, (False, 12, 12)), (13, 30, (False, 13, 20)),
            (13, 19, (False, 13, None)), (26, 30, (False, 26, None)), (5, 5, (True, None, None)),
        ]:
            self.assertEqual(first_tick(line, begin, end), wanted, (begin, end))

    def test_spans_are_joined(self):
        self.assertEqual(first_tick(([], [(4, 6), (0, 3)]), 1, 9), (False, 7, None))
        self.assertEqual(first_tick(([(7, 8), (5, 6)], []), 6, 9), (False, 6, 6))
        self.assertEqual(first_tick(([(9, 9), (5, 5)], []), 0, 9), (False, 0, 5))

    def test_yes_and_no_with_a_common_tick(self):
        self.assertEqual(first_tick(([(3, 5)], [(0, 4)]), 0, 9), (False, 5, 3))
        self.assertEqual(first_tick(([(0, 9)], [(0, 9)]), 0, 9), (True, None, None))
        self.assertEqual(first_tick(([(0, 9)], [(0, 9)]), 0, 10), (False, 10, 0))


class RisesTest(unittest.TestCase):
    def test_by_the_numbers(self):
        line = ([(5, 9), (15, 19)], [(0, 4), (11, 12), (21, 30)])
        for begin, end, wanted in [
            (0, 30, 2), (0, 14, 1), (0, 15, 2), (0, 4, 0), (0, 5, 1), (4, 5, 1), (5, 14, 0), (5, 15, 1), (12, 15, 1),
            (13, 15, 0), (9, 30, 1), (16, 30, 0), (4, 4, 0), (-5, 5, 1),
        ]:
            self.assertEqual(rises(line, begin, end), wanted, (begin, end))

    def test_directly_behind_or_with_a_tick_between(self):
        self.assertEqual(rises(([(5, 9)], [(0, 4)]), 0, 9), 1)
        self.assertEqual(rises(([(6, 9)], [(0, 4)]), 0, 9), 1)
        self.assertEqual(rises(([(0, 4)], [(5, 9)]), 0, 9), 0)

    def test_several_in_a_row(self):
        self.assertEqual(rises(([(10, 11)], [(0, 1), (4, 5)]), 0, 30), 1)
        self.assertEqual(rises(([(10, 11), (13, 14)], [(0, 1)]), 0, 30), 1)
        self.assertEqual(rises(([(10, 11), (13, 14)], [(0, 1), (12, 12)]), 0, 30), 2)
        # Spans of no that touch are one, and so are those of yes.
        self.assertEqual(rises(([(7, 8), (5, 6)], [(3, 4), (0, 2)]), 0, 30), 1)

    def test_yes_and_no_with_a_common_tick(self):
        # Of the same tick the begin of no stands first.
        self.assertEqual(rises(([(3, 5)], [(3, 4)]), 0, 9), 1)
        self.assertEqual(rises(([(3, 5)], [(0, 4)]), 4, 9), 1)
        self.assertEqual(rises(([(3, 5), (9, 9)], [(3, 4)]), 0, 9), 1)
        # Only the begins of joined spans count.
        self.assertEqual(rises(([(1, 2), (3, 4)], [(2, 2)]), 0, 9), 0)
        self.assertEqual(rises(([(2, 2), (7, 7)], [(0, 2), (3, 5)]), 0, 9), 1)

    def test_what_holds_tick_by_tick(self):
        rng = random.Random(25)
        for _ in range(300):
            yes, no = some_line(rng)
            begin = rng.randint(-12, 20)
            end = begin + rng.randint(0, 25)
            held = [at in ticks_of(yes) or at not in ticks_of(no) and rng.random() < 0.5
                    for at in range(begin, end + 1)]
            begun = sum(after and not before for before, after in zip(held, held[1:]))
            self.assertLessEqual(rises((yes, no), begin, end), begun)
            first = held.index(True) + begin if True in held else None
            never, low, high = first_tick((yes, no), begin, end)
            if never:
                self.assertIsNone(first)
            elif first is not None:
                self.assertLessEqual(low, first)
            if high is not None:
                self.assertTrue(first is not None and first <= high)
            told = throughout((yes, no), begin, end)
            if told != "unknown":
                self.assertEqual(all(held), told == "sure")


if __name__ == "__main__":
    unittest.main()
