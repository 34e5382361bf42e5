"""Turning: cosines and sines in units of 1 / SCALE, enclosed by intervals.

A pair (c, s) of intervals encloses the cosine and the sine of an angle.
"""

from orrery.space.intervals import add
from orrery.space.intervals import multiply
from orrery.space.intervals import subtract

SCALE = 10 ** 18


def rounded(interval, divisor):
    """An interval divided outwards by a divisor that is at least 1."""
    low, high = interval
    return (low // divisor, -(-high // divisor))


def unit_power(turn, ticks):
    """The power of a turn for a number of ticks that is not below 0."""
    return Turning(turn).power(ticks)


class Turning:
    """The powers of a turn.

    A power comes out of the factors of the binary digits of its number of ticks, from the lowest one
    to the highest one. So the power without the highest digit is a step on the way to it: powers are
    kept, because those of neighbouring ticks have such steps in common.
    """

    def __init__(self, turn):
        a, b, n = turn
        self._factors = [(rounded((a * SCALE, a * SCALE), n), rounded((b * SCALE, b * SCALE), n))]
        self._powers = {0: ((SCALE, SCALE), (0, 0))}

    def power(self, ticks):
        """The pair of intervals for a number of ticks that is not below 0."""
        ahead = []
        left = ticks
        while left not in self._powers:
            digit = left.bit_length() - 1
            ahead.append((left, digit))
            left -= 1 << digit
        found = self._powers[left]
        for whole, digit in reversed(ahead):
            found = _together(found, self._factor(digit))
            self._powers[whole] = found
        return found

    def _factor(self, digit):
        """The factor of a binary digit, counted from 0."""
        while len(self._factors) <= digit:
            last = self._factors[-1]
            self._factors.append(_together(last, last))
        return self._factors[digit]


def _together(first, second):
    c, s = first
    d, t = second
    cosine = subtract(multiply(c, d), multiply(s, t))
    sine = add(multiply(s, d), multiply(c, t))
    return (_cut(rounded(cosine, SCALE)), _cut(rounded(sine, SCALE)))


def _cut(interval):
    """An interval with the ends that are beyond -SCALE or SCALE brought to it."""
    low, high = interval
    return (max(-SCALE, min(low, SCALE)), max(-SCALE, min(high, SCALE)))
