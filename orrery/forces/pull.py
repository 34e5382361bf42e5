"""The pull of a body, at a point and over a box."""

from math import isqrt

from orrery.space.boxes import square_length
from orrery.space.intervals import add
from orrery.space.intervals import multiply
from orrery.space.intervals import quotient
from orrery.space.intervals import root
from orrery.space.intervals import scaled
from orrery.space.intervals import square
from orrery.space.intervals import subtract


def pull(body, point):
    """The pull at a point that is not the centre."""
    x, y, z = point
    s = x * x + y * y + z * z
    flat = 5 * z * z - s
    upright = 5 * z * z - 3 * s
    return (_part(body, x, flat, s), _part(body, y, flat, s), _part(body, z, upright, s))


def _part(body, c, bulge, s):
    r = isqrt(s)
    toward = (-body.mu * c) // (s * r)
    return toward + (body.oblateness * c * bulge) // (s * s * s * r)


def pull_over(body, box):
    """The pull over a box, or None if the box has the centre."""
    s = square_length(box)
    if s[0] == 0:
        return None
    d = multiply(s, root(s))
    x, y, z = box
    if body.oblateness == 0:
        # The bulge then adds nothing, and crafts take very many steps.
        return (_toward(body, x, d), _toward(body, y, d), _toward(body, z, d))
    e = multiply(multiply(s, s), d)
    lifted = scaled(square(z), 5)
    flat = subtract(lifted, s)
    upright = subtract(lifted, scaled(s, 3))
    return (
        add(_toward(body, x, d), _bulging(body, x, flat, e)),
        add(_toward(body, y, d), _bulging(body, y, flat, e)),
        add(_toward(body, z, d), _bulging(body, z, upright, e)),
    )


def _toward(body, c, d):
    return quotient(scaled(c, -body.mu), d)


def _bulging(body, c, bulge, e):
    return quotient(scaled(multiply(c, bulge), body.oblateness), e)
