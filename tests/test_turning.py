"""Point [53]: intervals divided outwards, and powers of turns."""

import random
import unittest
from fractions import Fraction

from orrery.stations.turning import SCALE, Turning, rounded, unit_power

S = 10 ** 18
TURNS = [(3, 4, 5), (-3, 4, 5), (4, -3, 5), (-5, -12, 13), (8, 15, 17), (-24, 7, 25), (999999, 0, 999999)]


def exact_power(turn, ticks):
    """The cosine and the sine, turned one tick after the other."""
    a, b, n = turn
    c, s = 1, 0
    for _ in range(ticks):
        c, s = c * a - s * b, s * a + c * b
    return Fraction(c, n ** ticks), Fraction(s, n ** ticks)


def outwards(low, high):
    """The least interval of integers that holds two fractions."""
    return (low.numerator // low.denominator, -(-high.numerator // high.denominator))


def slow_together(first, second):
    (c, s), (d, t) = first, second
    ends = [[Fraction(x * y, S) for x in one for y in two] for one, two in ((c, d), (s, t), (s, d), (c, t))]
    pair = (outwards(min(ends[0]) - max(ends[1]), max(ends[0]) - min(ends[1])),
            outwards(min(ends[2]) + min(ends[3]), max(ends[2]) + max(ends[3])))
    return tuple(tuple(sorted((-S, end, S))[1] for end in interval) for interval in pair)


def slow_power(turn, ticks):
    """The power in the very steps that the point tells."""
    a, b, n = turn
    result = ((S, S), (0, 0))
    factor = (outwards(Fraction(a * S, n), Fraction(a * S, n)), outwards(Fraction(b * S, n), Fraction(b * S, n)))
    while ticks > 0:
        if ticks % 2 == 1:
            result = slow_together(result, factor)
        factor = slow_together(factor, factor)
        ticks //= 2
    return result


class RoundedTest(unittest.TestCase):
    def test_divisors_that_divide_and_that_do_not(self):
        self.assertEqual(rounded((6, 9), 3), (2, 3))
        self.assertEqual(rounded((-9, -6), 3), (-3, -2))
        self.assertEqual(rounded((7, 7), 3), (2, 3))
        self.assertEqual(rounded((-7, -7), 3), (-3, -2))
        self.assertEqual(rounded((-7, 7), 3), (-3, 3))
        self.assertEqual(rounded((-8, 8), 3), (-3, 3))
        self.assertEqual(rounded((-1, 1), 10 ** 18), (-1, 1))
        self.assertEqual(rounded((1, 1), 10 ** 18), (0, 1))
        self.assertEqual(rounded((0, 0), 7), (0, 0))
        self.assertEqual(rounded((-5, 8), 1), (-5, 8))

    def test_against_fractions(self):
        for low in range(-12, 13):
            for high in range(low, 13):
                for d in range(1, 8):
                    self.assertEqual(rounded((low, high), d), outwards(Fraction(low, d), Fraction(high, d)))


class UnitPowerTest(unittest.TestCase):
    def test_the_scale(self):
        self.assertEqual(SCALE, 10 ** 18)

    def test_no_turn(self):
        for ticks in (0, 1, 2, 3, 10 ** 5):
            self.assertEqual(unit_power((1, 0, 1), ticks), ((S, S), (0, 0)))
            self.assertEqual(unit_power((7, 0, 7), ticks), ((S, S), (0, 0)))

    def test_quarters_are_exact(self):
        quarters = [((S, S), (0, 0)), ((0, 0), (S, S)), ((-S, -S), (0, 0)), ((0, 0), (-S, -S))]
        for ticks in (*range(13), 99999, 10 ** 5, 10 ** 30 + 3):
            self.assertEqual(unit_power((0, 1, 1), ticks), quarters[ticks % 4])
            self.assertEqual(unit_power((0, 5, 5), ticks), quarters[ticks % 4])
            self.assertEqual(unit_power((0, -1, 1), ticks), quarters[-ticks % 4])
            self.assertEqual(unit_power((-1, 0, 1), ticks), quarters[2 * ticks % 4])

    def test_three_four_five(self):
        c, s = 6 * 10 ** 17, 8 * 10 ** 17
        self.assertEqual(unit_power((3, 4, 5), 0), ((S, S), (0, 0)))
        self.assertEqual(unit_power((3, 4, 5), 1), ((c, c), (s, s)))
        self.assertEqual(unit_power((3, 4, 5), 2), ((-28 * 10 ** 16,) * 2, (96 * 10 ** 16,) * 2))
        self.assertEqual(unit_power((3, 4, 5), 3), ((-936 * 10 ** 15,) * 2, (352 * 10 ** 15,) * 2))
        self.assertEqual(unit_power((-3, -4, 5), 1), ((-c, -c), (-s, -s)))

    def test_a_unit_that_is_not_whole(self):
        third = 384615384615384615
        self.assertEqual(unit_power((5, 12, 13), 1), ((third, third + 1), (923076923076923076, 923076923076923077)))
        self.assertEqual(unit_power((-5, -12, 13), 1),
                         ((-third - 1, -third), (-923076923076923077, -923076923076923076)))

    def test_an_end_is_cut(self):
        # So near to a quarter the intervals would go on beyond the scale.
        told = unit_power((130857, 326024, 351305), 107)
        self.assertEqual(told, ((-4460787904, -4460787142), (999999999999999627, S)))
        told = unit_power((99025, 63168, 117457), 296)
        self.assertEqual(told, ((-11649168442, -11649163459), (-S, -999999999999997597)))
        cases = [((130857, 326024, 351305), 107), ((99025, 63168, 117457), 296), ((5, 12, 13), 2 ** 200 + 5)]
        for turn, ticks in cases:
            self.assertEqual(unit_power(turn, ticks), slow_power(turn, ticks))
        self.assertEqual(unit_power((5, 12, 13), 2 ** 200), ((-S, S), (-S, S)))

    def test_in_the_steps_that_are_told(self):
        rng = random.Random(1)
        for turn in TURNS + [(999 ** 2 - 1, 2 * 999, 999 ** 2 + 1)]:
            for ticks in [*range(20), *[rng.randint(20, 10 ** 5) for _ in range(10)], 2 ** 200 + 5]:
                self.assertEqual(unit_power(turn, ticks), slow_power(turn, ticks), (turn, ticks))

    def test_the_exact_fraction_is_enclosed(self):
        for turn in TURNS:
            for ticks in (0, 1, 2, 3, 4, 5, 17, 100, 255):
                for (low, high), exact in zip(unit_power(turn, ticks), exact_power(turn, ticks)):
                    self.assertTrue(low <= exact * S <= high, (turn, ticks))
                    self.assertLess(high - low, 10 ** 5)

    def test_kept_powers_are_those_of_their_ticks(self):
        rng = random.Random(2)
        for turn in TURNS[:3]:
            turning = Turning(turn)
            for ticks in [*range(70), *[rng.randint(0, 10 ** 5) for _ in range(60)], 0]:
                self.assertEqual(turning.power(ticks), unit_power(turn, ticks))


if __name__ == "__main__":
    unittest.main()
