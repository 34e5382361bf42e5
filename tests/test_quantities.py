"""Points [71] and [72]: enclosures, how they are combined, and how quantities are compared."""

import random
import unittest

from orrery.questions.quantities import at_most, combined, less
from orrery.space.intervals import add, multiply, subtract


def slow_overlaps(first, second):
    for begin, end, a in first:
        for other_begin, other_end, b in second:
            if max(begin, other_begin) <= min(end, other_end):
                yield max(begin, other_begin), min(end, other_end), a, b


def some_enclosures(rng):
    told = []
    for _ in range(rng.randint(0, 5)):
        begin, low = rng.randint(0, 20), rng.randint(-9, 9)
        told.append((begin, begin + rng.randint(0, 6), (low, low + rng.randint(0, 6))))
    return told


def slow_joined(spans):
    ticks = sorted({at for begin, end in spans for at in range(begin, end + 1)})
    begins = [at for at in ticks if at - 1 not in ticks]
    ends = [at for at in ticks if at + 1 not in ticks]
    return list(zip(begins, ends))


class CombinedTest(unittest.TestCase):
    def test_by_the_numbers(self):
        first, second = [(0, 4, (-2, 3))], [(3, 9, (-5, 7))]
        self.assertEqual(combined("sum", first, second), [(3, 4, (-7, 10))])
        self.assertEqual(combined("difference", first, second), [(3, 4, (-9, 8))])
        self.assertEqual(combined("product", first, second), [(3, 4, (-15, 21))])
        self.assertEqual(combined("difference", second, first), [(3, 4, (-8, 9))])
        self.assertEqual(combined("sum", first, [(5, 9, (0, 0))]), [])
        self.assertEqual(combined("sum", [], second), [])

    def test_ends_of_both_signs(self):
        pairs = [((1, 2), (3, 4)), ((-2, -1), (3, 4)), ((-2, -1), (-4, -3)), ((-2, 3), (-4, -3)), ((0, 0), (-4, 9))]
        for a, b in pairs:
            first, second = [(0, 1, a)], [(0, 1, b)]
            self.assertEqual(combined("sum", first, second), [(0, 1, add(a, b))])
            self.assertEqual(combined("difference", first, second), [(0, 1, subtract(a, b))])
            self.assertEqual(combined("product", first, second), [(0, 1, multiply(a, b))])
        self.assertEqual(combined("product", [(0, 0, (-2, 3))], [(0, 0, (-4, -3))]), [(0, 0, (-12, 8))])

    def test_gaps_and_overlaps(self):
        first = [(0, 5, (1, 1)), (3, 9, (2, 2)), (20, 25, (3, 3))]
        second = [(24, 30, (10, 10)), (4, 8, (20, 20)), (10, 21, (30, 30))]
        self.assertEqual(combined("sum", first, second), [
            (4, 5, (21, 21)), (4, 8, (22, 22)), (24, 25, (13, 13)), (20, 21, (33, 33)),
        ])

    def test_in_order(self):
        rng = random.Random(26)
        words = {"sum": add, "difference": subtract, "product": multiply}
        for _ in range(300):
            first, second = some_enclosures(rng), some_enclosures(rng)
            kept = (list(first), list(second))
            for word, made in words.items():
                wanted = [(begin, end, made(a, b)) for begin, end, a, b in slow_overlaps(first, second)]
                self.assertEqual(combined(word, first, second), wanted)
            self.assertEqual((first, second), kept)


class ComparedTest(unittest.TestCase):
    def test_less_at_equal_ends(self):
        for a, b, wanted in [
            ((1, 3), (4, 9), "yes"), ((1, 4), (4, 9), "open"), ((1, 5), (4, 9), "open"), ((4, 9), (1, 4), "no"),
            ((4, 9), (1, 3), "no"), ((4, 9), (1, 5), "open"), ((4, 4), (4, 4), "no"), ((3, 3), (4, 4), "yes"),
        ]:
            line = ([(0, 5)] if wanted == "yes" else [], [(0, 5)] if wanted == "no" else [])
            self.assertEqual(less([(0, 5, a)], [(0, 5, b)]), line)

    def test_at_most_at_equal_ends(self):
        for a, b, wanted in [
            ((1, 3), (4, 9), "yes"), ((1, 4), (4, 9), "yes"), ((1, 5), (4, 9), "open"), ((4, 9), (1, 4), "open"),
            ((4, 9), (1, 3), "no"), ((4, 4), (4, 4), "yes"), ((5, 5), (4, 4), "no"),
        ]:
            line = ([(0, 5)] if wanted == "yes" else [], [(0, 5)] if wanted == "no" else [])
            self.assertEqual(at_most([(0, 5, a)], [(0, 5, b)]), line)

    def test_common_ticks_joined(self):
        first = [(0, 3, (1, 1)), (4, 6, (2, 2)), (9, 9, (50, 60))]
        self.assertEqual(less(first, [(2, 20, (10, 10))]), ([(2, 6)], [(9, 9)]))
        self.assertEqual(less(first, [(10, 20, (10, 10))]), ([], []))
        self.assertEqual(less([], []), ([], []))
        self.assertEqual(at_most([(0, 20, (10, 10))], first), ([(9, 9)], [(0, 6)]))

    def test_against_all_pairs(self):
        rng = random.Random(27)
        for _ in range(300):
            first, second = some_enclosures(rng), some_enclosures(rng)
            rows = list(slow_overlaps(first, second))
            yes = slow_joined([(begin, end) for begin, end, a, b in rows if a[1] < b[0]])
            no = slow_joined([(begin, end) for begin, end, a, b in rows if a[0] >= b[1]])
            self.assertEqual(less(first, second), (yes, no))
            yes = slow_joined([(begin, end) for begin, end, a, b in rows if a[1] <= b[0]])
            no = slow_joined([(begin, end) for begin, end, a, b in rows if a[0] > b[1]])
            self.assertEqual(at_most(first, second), (yes, no))

    def test_very_many(self):
        first = [(k, k, (k, k)) for k in range(60000)]
        second = [(2 * k, 2 * k + 1, (30000, 30000)) for k in range(30000)]
        self.assertEqual(less(first, second), ([(0, 29999)], [(30000, 59999)]))
        self.assertEqual(combined("product", first, second)[-1], (59999, 59999, (59999 * 30000,) * 2))


if __name__ == "__main__":
    unittest.main()
