"""States, pairs of boxes for place and speed, and how they are split."""

from orrery.space.boxes import box_has
from orrery.space.boxes import box_inside
from orrery.space.intervals import middle
from orrery.space.intervals import width


class State:
    """A box for the place and a box for the speed."""

    def __init__(self, place, speed):
        self.place = place
        self.speed = speed


def split(state):
    """The two halves of a state, or one state with the same boxes if it has one member."""
    six = state.place + state.speed
    widths = [width(interval) for interval in six]
    greatest = max(widths)
    if greatest == 0:
        return [State(state.place, state.speed)]
    number = widths.index(greatest)
    low, high = six[number]
    half = middle(six[number])
    return [_with_interval(six, number, (low, half)), _with_interval(six, number, (half + 1, high))]


def _with_interval(six, number, interval):
    changed = six[:number] + (interval,) + six[number + 1:]
    return State(changed[:3], changed[3:])


def parts_of(state, fineness):
    """The parts of a state by a fineness, in order."""
    parts = [state]
    for _ in range(fineness):
        parts = [half for part in parts for half in split(part)]
    return parts


def state_inside(inner, outer):
    """True if both boxes of `inner` are inside those of `outer`, otherwise False."""
    return box_inside(inner.place, outer.place) and box_inside(inner.speed, outer.speed)


def state_has(state, place, speed):
    """True if two points are members of the boxes of a state, otherwise False."""
    return box_has(state.place, place) and box_has(state.speed, speed)
