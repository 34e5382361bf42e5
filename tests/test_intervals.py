"""Points [7] to [11] and [13]: intervals."""

import math
import unittest

from orrery.space import intervals as iv

SMALL = [(low, high) for low in range(-4, 5) for high in range(low, 5)]
BIG = 10 ** 45


def members(interval):
    return range(interval[0], interval[1] + 1)


def around(numbers):
    found = list(numbers)
    return (min(found), max(found))


class PairsTest(unittest.TestCase):
    def test_every_pair_of_small_intervals(self):
        for a in SMALL:
            for b in SMALL:
                self.assertEqual(iv.add(a, b), around(p + q for p in members(a) for q in members(b)))
                self.assertEqual(iv.subtract(a, b), around(p - q for p in members(a) for q in members(b)))
                self.assertEqual(iv.multiply(a, b), around(p * q for p in members(a) for q in members(b)))
                self.assertEqual(iv.hull(a, b), around(list(members(a)) + list(members(b))))
                common = sorted(set(members(a)) & set(members(b)))
                self.assertEqual(iv.meet(a, b), around(common) if common else None)
                self.assertIs(iv.inside(a, b), set(members(a)) <= set(members(b)))

    def test_sum_and_difference(self):
        self.assertEqual(iv.add((1, 2), (-5, 7)), (-4, 9))
        self.assertEqual(iv.subtract((1, 2), (-5, 7)), (-6, 7))
        self.assertEqual(iv.add((BIG, BIG), (1, 2)), (BIG + 1, BIG + 2))

    def test_product_with_ends_of_all_signs(self):
        self.assertEqual(iv.multiply((2, 3), (5, 7)), (10, 21))
        self.assertEqual(iv.multiply((-3, -2), (5, 7)), (-21, -10))
        self.assertEqual(iv.multiply((-3, -2), (-7, -5)), (10, 21))
        self.assertEqual(iv.multiply((-3, 2), (-7, 5)), (-15, 21))
        self.assertEqual(iv.multiply((-3, 2), (5, 7)), (-21, 14))
        self.assertEqual(iv.multiply((0, 0), (-7, 5)), (0, 0))
        self.assertEqual(iv.multiply((-BIG, 1), (BIG, BIG)), (-BIG * BIG, BIG))

    def test_common_part(self):
        self.assertEqual(iv.meet((0, 5), (5, 9)), (5, 5))
        self.assertEqual(iv.meet((5, 9), (0, 5)), (5, 5))
        self.assertIsNone(iv.meet((0, 5), (6, 9)))
        self.assertEqual(iv.meet((0, 9), (-3, 20)), (0, 9))

    def test_hull_spans_what_lies_between(self):
        self.assertEqual(iv.hull((0, 1), (8, 9)), (0, 9))
        self.assertEqual(iv.hull((8, 9), (-4, -2)), (-4, 9))


class SinglesTest(unittest.TestCase):
    def test_every_small_interval(self):
        for a in SMALL:
            self.assertEqual(iv.negate(a), around(-p for p in members(a)))
            self.assertEqual(iv.square(a), around(p * p for p in members(a)))
            self.assertEqual(iv.size(a), max(abs(p) for p in members(a)))
            self.assertEqual(iv.width(a), len(members(a)) - 1)
            self.assertEqual(iv.middle(a), math.floor((a[0] + a[1]) / 2))
            for n in range(-6, 7):
                self.assertEqual(iv.scaled(a, n), around(n * p for p in members(a)))
                self.assertIs(iv.has(a, n), n in members(a))
                if n >= 0:
                    self.assertEqual(iv.widened(a, n), (a[0] - n, a[1] + n))

    def test_multiples(self):
        self.assertEqual(iv.scaled((-2, 5), 3), (-6, 15))
        self.assertEqual(iv.scaled((-2, 5), 0), (0, 0))
        self.assertEqual(iv.scaled((-2, 5), -3), (-15, 6))

    def test_square_with_and_without_zero(self):
        self.assertEqual(iv.square((-3, 2)), (0, 9))
        self.assertEqual(iv.square((0, 4)), (0, 16))
        self.assertEqual(iv.square((-4, 0)), (0, 16))
        self.assertEqual(iv.square((2, 4)), (4, 16))
        self.assertEqual(iv.square((-4, -2)), (4, 16))

    def test_middle_is_rounded_down(self):
        self.assertEqual(iv.middle((-3, 0)), -2)
        self.assertEqual(iv.middle((-4, -3)), -4)
        self.assertEqual(iv.middle((3, 4)), 3)
        self.assertEqual(iv.middle((-1, 1)), 0)

    def test_size_width_and_members(self):
        self.assertEqual(iv.size((-7, 5)), 7)
        self.assertEqual(iv.size((-5, 7)), 7)
        self.assertEqual(iv.width((-5, 7)), 12)
        self.assertEqual(iv.width((BIG, BIG)), 0)
        self.assertEqual(iv.widened((-1, 1), 0), (-1, 1))
        self.assertTrue(iv.has((-5, 7), -5) and iv.has((-5, 7), 7))
        self.assertFalse(iv.has((-5, 7), -6) or iv.has((-5, 7), 8))
        self.assertTrue(iv.inside((1, 2), (1, 2)))
        self.assertFalse(iv.inside((0, 2), (1, 2)))
        self.assertFalse(iv.inside((1, 3), (1, 2)))


class QuotientTest(unittest.TestCase):
    def test_every_small_quotient(self):
        for a in SMALL:
            for low in range(1, 5):
                for high in range(low, 6):
                    exact = around(p // q for p in members(a) for q in range(low, high + 1))
                    self.assertEqual(iv.quotient(a, (low, high)), exact)

    def test_rounded_down(self):
        self.assertEqual(iv.quotient((-7, -7), (2, 2)), (-4, -4))
        self.assertEqual(iv.quotient((-7, 7), (2, 2)), (-4, 3))
        self.assertEqual(iv.quotient((-7, -1), (2, 5)), (-4, -1))
        self.assertEqual(iv.quotient((7, 20), (2, 5)), (1, 10))
        self.assertEqual(iv.quotient((-1, 0), (BIG, BIG)), (-1, 0))


class RootTest(unittest.TestCase):
    def test_small_roots(self):
        for n in range(200):
            low, high = iv.root((n, n))
            self.assertEqual(low, high)
            self.assertTrue(low * low <= n < (low + 1) * (low + 1))

    def test_edges(self):
        self.assertEqual(iv.root((0, 0)), (0, 0))
        self.assertEqual(iv.root((48, 49)), (6, 7))
        self.assertEqual(iv.root((-9, 99)), (0, 9))
        self.assertEqual(iv.root((-9, 0)), (0, 0))

    def test_numbers_without_bound(self):
        r = 10 ** 30 + 7
        self.assertEqual(iv.root((r * r - 1, r * r)), (r - 1, r))
        self.assertEqual(iv.root((r * r + 2 * r, r * r + 2 * r + 1)), (r, r + 1))


if __name__ == "__main__":
    unittest.main()
