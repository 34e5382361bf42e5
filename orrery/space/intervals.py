"""Intervals of integers: pairs (low, high) with low at most high."""

from math import isqrt


def add(a, b):
    """The sum of two intervals."""
    return (a[0] + b[0], a[1] + b[1])


def subtract(a, b):
    """The difference of two intervals."""
    return (a[0] - b[1], a[1] - b[0])


def negate(a):
    """The negative of an interval."""
    return (-a[1], -a[0])


def scaled(a, n):
    """An interval times a number."""
    if n < 0:
        return (n * a[1], n * a[0])
    return (n * a[0], n * a[1])


def multiply(a, b):
    """The product of two intervals."""
    first, second, third, fourth = a[0] * b[0], a[0] * b[1], a[1] * b[0], a[1] * b[1]
    return (min(first, second, third, fourth), max(first, second, third, fourth))


def square(a):
    """The squares of the members of an interval, from the least to the greatest."""
    low = a[0] * a[0]
    high = a[1] * a[1]
    if has(a, 0):
        return (0, max(low, high))
    return (min(low, high), max(low, high))


def quotient(a, d):
    """The quotient of two intervals; the low of `d` is at least 1."""
    low = min(a[0] // d[0], a[0] // d[1])
    high = max(a[1] // d[0], a[1] // d[1])
    return (low, high)


def root(a):
    """The integer roots of an interval; its high is at least 0."""
    return (isqrt(max(0, a[0])), isqrt(a[1]))


def meet(a, b):
    """The common part of two intervals, or None."""
    low = max(a[0], b[0])
    high = min(a[1], b[1])
    if low > high:
        return None
    return (low, high)


def hull(a, b):
    """The hull of two intervals."""
    return (min(a[0], b[0]), max(a[1], b[1]))


def widened(a, w):
    """An interval widened by `w`, which is at least 0."""
    return (a[0] - w, a[1] + w)


def middle(a):
    """The middle of an interval, rounded down."""
    return (a[0] + a[1]) // 2


def width(a):
    """The width of an interval."""
    return a[1] - a[0]


def size(a):
    """The greater one of the absolute values of the ends."""
    return max(abs(a[0]), abs(a[1]))


def inside(inner, outer):
    """True if all members of `inner` are members of `outer`, otherwise False."""
    return outer[0] <= inner[0] and inner[1] <= outer[1]


def has(a, n):
    """True if the integer `n` is a member, otherwise False."""
    return a[0] <= n <= a[1]
