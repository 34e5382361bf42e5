"""Boxes, triples of intervals, and points, triples of integers."""

from orrery.space.intervals import add
from orrery.space.intervals import has
from orrery.space.intervals import hull
from orrery.space.intervals import inside
from orrery.space.intervals import meet
from orrery.space.intervals import middle
from orrery.space.intervals import multiply
from orrery.space.intervals import size
from orrery.space.intervals import square
from orrery.space.intervals import subtract
from orrery.space.intervals import widened


def point_add(p, q):
    """The sum of two points."""
    return (p[0] + q[0], p[1] + q[1], p[2] + q[2])


def point_subtract(p, q):
    """The difference of two points."""
    return (p[0] - q[0], p[1] - q[1], p[2] - q[2])


def point_box(point):
    """The box that has a point as its only member."""
    x, y, z = point
    return ((x, x), (y, y), (z, z))


def box_add(a, b):
    """The sum of two boxes."""
    return (add(a[0], b[0]), add(a[1], b[1]), add(a[2], b[2]))


def box_subtract(a, b):
    """The difference of two boxes."""
    return (subtract(a[0], b[0]), subtract(a[1], b[1]), subtract(a[2], b[2]))


def box_hull(a, b):
    """The hull of two boxes."""
    return (hull(a[0], b[0]), hull(a[1], b[1]), hull(a[2], b[2]))


def box_hull_of(boxes):
    """The hull of a list or tuple of boxes, of at least one."""
    whole = boxes[0]
    for box in boxes[1:]:
        whole = box_hull(whole, box)
    return whole


def box_widened(a, w):
    """A box widened by `w`, which is at least 0."""
    return (widened(a[0], w), widened(a[1], w), widened(a[2], w))


def box_meet(a, b):
    """The common part of two boxes, or None."""
    x = meet(a[0], b[0])
    y = meet(a[1], b[1])
    z = meet(a[2], b[2])
    if x is None or y is None or z is None:
        return None
    return (x, y, z)


def box_inside(inner, outer):
    """True if all members of `inner` are members of `outer`, otherwise False."""
    return inside(inner[0], outer[0]) and inside(inner[1], outer[1]) and inside(inner[2], outer[2])


def box_has(box, point):
    """True if a point is a member of a box, otherwise False."""
    return has(box[0], point[0]) and has(box[1], point[1]) and has(box[2], point[2])


def box_middle(box):
    """The point of the middles of the three intervals."""
    return (middle(box[0]), middle(box[1]), middle(box[2]))


def inner_product(a, b):
    """The inner product of two boxes."""
    flat = add(multiply(a[0], b[0]), multiply(a[1], b[1]))
    return add(flat, multiply(a[2], b[2]))


def square_length(box):
    """The square of the length of a box."""
    return add(add(square(box[0]), square(box[1])), square(box[2]))


def box_size(box):
    """The greatest one of the sizes of the three intervals."""
    return max(size(box[0]), size(box[1]), size(box[2]))
