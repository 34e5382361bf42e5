"""Points [14] and [15]: the pull at a point and over a box."""

import itertools
import random
import unittest
from math import isqrt

from orrery.forces.pull import pull, pull_over
from orrery.space.boxes import box_has, point_box

from worlds import a_body, cube, slow_pull


class PointTest(unittest.TestCase):
    def test_without_oblateness(self):
        self.assertEqual(pull(a_body(1000), (10, 0, 0)), (-10, 0, 0))
        self.assertEqual(pull(a_body(1000), (0, 3, -4)), (0, -24, 32))
        self.assertEqual(pull(a_body(7), (1, 1, 1)), (-3, -3, -3))

    def test_each_quotient_is_rounded_down(self):
        self.assertEqual(pull(a_body(1), (3, 0, 0)), (-1, 0, 0))
        self.assertEqual(pull(a_body(1), (-3, 0, 0)), (0, 0, 0))
        self.assertEqual(pull(a_body(1, 1), (3, 0, 0)), (-2, 0, 0))

    def test_with_oblateness(self):
        self.assertEqual(pull(a_body(1, 10 ** 6), (3, 0, 4)), (2111, 0, 255))
        self.assertEqual(pull(a_body(1, 10 ** 6), (0, -3, -4)), (0, -2112, -256))

    def test_small_and_large_numbers_of_either_sign(self):
        rng = random.Random(3)
        for most in (1, 3, 50, 10 ** 6, 10 ** 15, 10 ** 40):
            for _ in range(60):
                p = tuple(rng.randint(-most, most) for _ in range(3))
                if p == (0, 0, 0):
                    continue
                body = a_body(rng.randint(1, 10 ** 30), rng.choice([0, rng.randint(1, 10 ** 30)]))
                self.assertEqual(pull(body, p), slow_pull(body, p))


def product_of(a, b):
    ends = [p * q for p in a for q in b]
    return (min(ends), max(ends))


def sum_of(a, b):
    return (a[0] + b[0], a[1] + b[1])


def square_of(a):
    ends = [a[0] ** 2, a[1] ** 2]
    return (0 if a[0] <= 0 <= a[1] else min(ends), max(ends))


def quotient_of(a, d):
    return (min(a[0] // end for end in d), max(a[1] // end for end in d))


def slow_pull_over(body, box):
    """Point [15], interval by interval; no member of the box is the centre."""
    x, y, z = box
    s = sum_of(sum_of(square_of(x), square_of(y)), square_of(z))
    d = product_of(s, (isqrt(s[0]), isqrt(s[1])))
    e = product_of(product_of(s, s), d)
    pulled = []
    for c, k in ((x, 1), (y, 1), (z, 3)):
        bulge = sum_of(product_of(square_of(z), (5, 5)), product_of(s, (-k, -k)))
        n = product_of(product_of(c, bulge), (body.oblateness,) * 2)
        pulled.append(sum_of(quotient_of(product_of(c, (-body.mu,) * 2), d), quotient_of(n, e)))
    return tuple(pulled)


class BoxTest(unittest.TestCase):
    def test_in_the_words_of_the_point(self):
        rng = random.Random(6)
        for _ in range(400):
            most = rng.choice([5, 30, 10 ** 6, 10 ** 20])
            box = tuple(tuple(sorted(rng.randint(-most, most) for _ in range(2))) for _ in range(3))
            body = a_body(rng.randint(1, 10 ** 9), rng.choice([0, 1, 1, rng.randint(2, 10 ** 12)]))
            wanted = None if all(low <= 0 <= high for low, high in box) else slow_pull_over(body, box)
            self.assertEqual(pull_over(body, box), wanted)

    def test_the_centre_in_the_box(self):
        self.assertIsNone(pull_over(a_body(), cube(0, 0, 0, 0)))
        self.assertIsNone(pull_over(a_body(), ((-3, 0), (0, 2), (-1, 1))))
        self.assertIsNotNone(pull_over(a_body(), ((-3, 0), (0, 2), (1, 1))))

    def test_worked_examples(self):
        self.assertEqual(pull_over(a_body(100), ((3, 4), (0, 0), (0, 0))), ((-15, -5), (0, 0), (0, 0)))
        self.assertEqual(pull_over(a_body(100, 10 ** 4), ((3, 4), (0, 0), (0, 0))), ((-308, -22), (0, 0), (0, 0)))
        self.assertEqual(pull_over(a_body(100, 10 ** 4), ((0, 0), (0, 0), (3, 4))), ((0, 0), (0, 0), (-70, 964)))
        self.assertEqual(pull_over(a_body(100), ((-4, -3), (0, 0), (0, 0))), ((4, 14), (0, 0), (0, 0)))

    def test_a_point_box_gives_the_point_box_of_the_pull(self):
        rng = random.Random(4)
        for most in (2, 40, 10 ** 9, 10 ** 40):
            for _ in range(50):
                p = tuple(rng.randint(1, most) * rng.choice([-1, 1]) for _ in range(3))
                body = a_body(rng.randint(1, 10 ** 30), rng.randint(0, 10 ** 30))
                self.assertEqual(pull_over(body, point_box(p)), point_box(pull(body, p)))

    def test_every_member_of_wider_boxes(self):
        rng = random.Random(5)
        for _ in range(60):
            body = a_body(rng.randint(1, 10 ** 6), rng.choice([0, rng.randint(1, 10 ** 9)]))
            lows = [rng.randint(-8, 8) for _ in range(3)]
            box = tuple((low, low + rng.randint(0, 4)) for low in lows)
            over = pull_over(body, box)
            if over is None:
                continue
            for p in itertools.product(*[range(low, high + 1) for low, high in box]):
                self.assertTrue(box_has(over, pull(body, p)), (box, p))


if __name__ == "__main__":
    unittest.main()
