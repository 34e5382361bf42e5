"""Courses: journeys told in pieces of as many ticks as the stride."""

from orrery.space.boxes import box_hull
from orrery.space.boxes import box_hull_of
from orrery.ways.journeys import traced


class Piece:
    """A first and a last tick, and boxes one of which has the object at all these ticks."""

    def __init__(self, begin, end, parts):
        self.begin = begin
        self.end = end
        self.parts = tuple(parts)

    def during(self):
        """The hull of the parts."""
        return box_hull_of(self.parts)


class Course:
    """Pieces in the order of their ticks, and how the journey ends."""

    def __init__(self, pieces, ending):
        self.pieces = list(pieces)
        self.ending = ending


def course(contents, craft, until):
    """The course of a craft up to a tick."""
    stride = contents.stride
    # For a tick before the start the number is below 0, and the end comes out before the start, too.
    number = (until - craft.start) // stride
    end = craft.start + (number + 1) * stride - 1
    told, sources = traced(contents.body, contents.fineness, craft, end)
    covered = len(told.moments) // stride
    pieces = [_piece(told.moments, sources, k * stride, stride) for k in range(covered)]
    return Course(pieces, told.ending)


def _piece(moments, sources, first, stride):
    """The piece of the moments from the number `first` on."""
    parts = [state.place for state in moments[first].states]
    for number in range(first + 1, first + stride):
        states = moments[number].states
        parts = [box_hull(parts[source], state.place) for source, state in zip(sources[number], states)]
    return Piece(moments[first].at, moments[first + stride - 1].at, parts)
