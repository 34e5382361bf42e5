"""Points [7], [12] and [13]: boxes, coordinate by coordinate."""

import random
import unittest

from orrery.space import boxes, intervals

A = ((1, 4), (-3, 2), (0, 0))
B = ((4, 9), (-8, -3), (-1, 6))


def random_box(rng):
    ends = [sorted([rng.randint(-9, 9), rng.randint(-9, 9)]) for _ in range(3)]
    return tuple([tuple(pair) for pair in ends])


class CoordinatesTest(unittest.TestCase):
    def test_examples(self):
        self.assertEqual(boxes.box_add(A, B), ((5, 13), (-11, -1), (-1, 6)))
        self.assertEqual(boxes.box_subtract(A, B), ((-8, 0), (0, 10), (-6, 1)))
        self.assertEqual(boxes.box_hull(A, B), ((1, 9), (-8, 2), (-1, 6)))
        self.assertEqual(boxes.box_widened(A, 2), ((-1, 6), (-5, 4), (-2, 2)))
        self.assertEqual(boxes.box_widened(A, 0), A)
        self.assertEqual(boxes.box_meet(A, B), ((4, 4), (-3, -3), (0, 0)))
        self.assertEqual(boxes.point_box((1, -2, 3)), ((1, 1), (-2, -2), (3, 3)))
        self.assertEqual(boxes.box_middle(((1, 4), (-3, 0), (-7, 7))), (2, -2, 0))

    def test_each_coordinate_against_the_intervals(self):
        rng = random.Random(1)
        for _ in range(300):
            a, b = random_box(rng), random_box(rng)
            for told, wanted in [
                (boxes.box_add, intervals.add),
                (boxes.box_subtract, intervals.subtract),
                (boxes.box_hull, intervals.hull),
            ]:
                self.assertEqual(told(a, b), tuple(wanted(p, q) for p, q in zip(a, b)))
            parts = tuple(intervals.meet(p, q) for p, q in zip(a, b))
            self.assertEqual(boxes.box_meet(a, b), None if None in parts else parts)
            insides = [intervals.inside(p, q) for p, q in zip(a, b)]
            self.assertIs(boxes.box_inside(a, b), all(insides))
            self.assertEqual(boxes.box_size(a), max(intervals.size(p) for p in a))
            self.assertEqual(boxes.box_hull_of([a, b, A]), boxes.box_hull(boxes.box_hull(a, b), A))

    def test_no_common_part_if_one_of_the_three_has_none(self):
        for number in range(3):
            other = list(A)
            other[number] = (50, 60)
            self.assertIsNone(boxes.box_meet(A, tuple(other)))
            self.assertIsNone(boxes.box_meet(tuple(other), A))

    def test_inside_and_members(self):
        self.assertIs(boxes.box_inside(A, A), True)
        for number in range(3):
            smaller = list(A)
            smaller[number] = (A[number][0], A[number][1] + 1)
            self.assertIs(boxes.box_inside(tuple(smaller), A), False)
            self.assertIs(boxes.box_inside(A, tuple(smaller)), True)
            point = [2, 0, 0]
            self.assertIs(boxes.box_has(A, tuple(point)), True)
            point[number] = A[number][1] + 1
            self.assertIs(boxes.box_has(A, tuple(point)), False)
            point[number] = A[number][0] - 1
            self.assertIs(boxes.box_has(A, tuple(point)), False)
        self.assertIs(boxes.box_has(A, (1, 2, 0)), True)

    def test_size(self):
        self.assertEqual(boxes.box_size(((-9, 2), (3, 4), (5, 6))), 9)
        self.assertEqual(boxes.box_size(((0, 2), (3, 14), (5, 6))), 14)
        self.assertEqual(boxes.box_size(((0, 0), (0, 0), (-5, 0))), 5)

    def test_sums_of_points(self):
        self.assertEqual(boxes.point_add((1, -2, 3), (10, 20, 30)), (11, 18, 33))
        self.assertEqual(boxes.point_subtract((1, -2, 3), (10, 20, 30)), (-9, -22, -27))


class ProductsTest(unittest.TestCase):
    def test_inner_product(self):
        self.assertEqual(boxes.inner_product(A, B), (-12, 60))
        self.assertEqual(boxes.inner_product(A, A), (-5, 25))

    def test_square_length(self):
        self.assertEqual(boxes.square_length(A), (1, 25))
        self.assertEqual(boxes.square_length(B), (25, 181))
        self.assertEqual(boxes.square_length(boxes.point_box((0, 0, 0))), (0, 0))

    def test_results_hold_the_results_of_members(self):
        rng = random.Random(2)
        for _ in range(300):
            a, b = random_box(rng), random_box(rng)
            p = tuple(rng.randint(low, high) for low, high in a)
            q = tuple(rng.randint(low, high) for low, high in b)
            self.assertTrue(boxes.box_has(boxes.box_add(a, b), tuple(c + d for c, d in zip(p, q))))
            self.assertTrue(boxes.box_has(boxes.box_subtract(a, b), tuple(c - d for c, d in zip(p, q))))
            self.assertTrue(intervals.has(boxes.inner_product(a, b), sum(c * d for c, d in zip(p, q))))
            self.assertTrue(intervals.has(boxes.square_length(a), sum(c * c for c in p)))


if __name__ == "__main__":
    unittest.main()
