"""Meetings: when two objects can be, and surely are, within a distance."""

from math import isqrt

from orrery.space.boxes import box_subtract
from orrery.space.boxes import square_length
from orrery.space.intervals import hull
from orrery.ways.journeys import journey


def gap(first, second):
    """The gap of two moments, an interval."""
    gaps = [
        square_length(box_subtract(one.place, other.place))
        for one in first.states
        for other in second.states
    ]
    return (min([low for low, _ in gaps]), max([high for _, high in gaps]))


def root_up(n):
    """The root of an integer that is not below 0, rounded up."""
    r = isqrt(n)
    if r * r == n:
        return r
    return r + 1


def meeting(contents, first, second, begin, end, distance):
    """The spans (first tick, last tick, verdict, least, most) of the meeting of two crafts."""
    return spans_of(_stretches_of(contents, first, second, begin, end), distance)


def spans_of(stretches, distance):
    """The spans of a meeting, made of the stretches of its ticks."""
    runs = []
    for first, last, word, between in stretches:
        verdict = word if between is None else _verdict(between, distance * distance)
        if runs and runs[-1][2] == verdict:
            before = runs.pop()
            both = None if between is None else hull(before[3], between)
            runs.append((before[0], last, verdict, both))
        else:
            runs.append((first, last, verdict, between))
    return [_span(run) for run in runs]


def first_near(one, other, start, end, distance):
    """The first span of a meeting that is not "impossible", or None.

    `one` and `other` are journeys up to `end`; `start` is not before the start of either of them.
    """
    for span in spans_of(stretches_between(one, other, start, end), distance):
        if span[2] != "impossible":
            return span
    return None


def _stretches_of(contents, first, second, begin, end):
    """The stretches of the ticks of two crafts from `begin` to `end` at which both have begun."""
    one = journey(contents.body, contents.fineness, first, end)
    other = journey(contents.body, contents.fineness, second, end)
    return stretches_between(one, other, max(begin, first.start, second.start), end)


def stretches_between(one, other, start, end):
    """The ticks as tuples (first tick, last tick, word, gap): the word or the gap is None.

    `one` and `other` are journeys up to `end`; `start` is not before the start of either of them.
    A tick at which both have a moment stands alone, with its gap. The ticks behind stand together
    from one broken tick to the next one, because they may be very many.
    """
    stretches = []
    at = start
    while at <= end:
        here = one.moment(at)
        there = other.moment(at)
        if here is None or there is None:
            last = _last_alike(one, other, at, end)
            stretches.append((at, last, _missing(one, other, at), None))
        else:
            last = at
            stretches.append((at, last, None, gap(here, there)))
        at = last + 1
    return stretches


def _missing(one, other, at):
    """The verdict at a tick at which one of two journeys, at least, has no moment."""
    for told in [one, other]:
        if told.moment(at) is None and told.ending == "void":
            return "void"
    return "unknown"


def _last_alike(one, other, at, end):
    """The last tick from `at` to `end` that has no broken tick between itself and `at`."""
    last = end
    for told in [one, other]:
        if told.broken is not None and at < told.broken <= last:
            last = told.broken - 1
    return last


def _verdict(between, most):
    """The verdict of a gap; `most` is the square of the distance."""
    low, high = between
    if low > most:
        return "impossible"
    if high <= most:
        return "certain"
    return "possible"


def _span(run):
    first, last, verdict, between = run
    if between is None:
        return (first, last, verdict, None, None)
    low, high = between
    return (first, last, verdict, isqrt(low), root_up(high))


def closest(contents, first, second, begin, end):
    """The closest distance of two crafts, a pair, or None."""
    gaps = [stretch[3] for stretch in _stretches_of(contents, first, second, begin, end)]
    if not gaps or None in gaps:
        return None
    least_low = min([low for low, _ in gaps])
    least_high = min([high for _, high in gaps])
    return (isqrt(least_low), root_up(least_high))
