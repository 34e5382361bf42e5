"""Light and shadow: when a craft surely is in the shadow of the body, and when it surely is not."""

from orrery.data import check_span
from orrery.data import is_box
from orrery.errors import BadArgument
from orrery.space.boxes import inner_product
from orrery.space.boxes import square_length
from orrery.space.intervals import multiply
from orrery.space.intervals import subtract
from orrery.ways.courses import course
from orrery.ways.runs import agreed
from orrery.ways.runs import runs_of
from orrery.ways.runs import shares

MOST_RADIUS = 10 ** 15
MOST_SUN = 10 ** 12


def light_of(box, way, radius):
    """Whether the points of a box are in the light, with the direction `way`, a box."""
    toward = inner_product(box, way)
    aside = square_length(_cross_product(box, way))
    long = square_length(way)
    wide = radius * radius
    if toward[1] < 0 and aside[1] < wide * long[0]:
        return "dark"
    if toward[0] >= 0 or aside[0] >= wide * long[1]:
        return "lit"
    return "either"


def _cross_product(a, b):
    x, y, z = a
    p, q, r = b
    return (
        subtract(multiply(y, r), multiply(z, q)),
        subtract(multiply(z, p), multiply(x, r)),
        subtract(multiply(x, q), multiply(y, p)),
    )


def way_over(sun, begin, end):
    """The direction over the ticks from `begin` to `end`, a box."""
    way, rate = sun
    return tuple([_gone(there, each, begin, end) for there, each in zip(way, rate)])


def _gone(there, each, begin, end):
    low = there[0] + min(each[0] * begin, each[0] * end)
    high = there[1] + max(each[1] * begin, each[1] * end)
    return (low, high)


def light(contents, craft, begin, end, radius, sun):
    """The tuple (spans, least, greatest, longest darkness) of the spans of light of a craft."""
    check_span(begin, end)
    if not 1 <= radius <= MOST_RADIUS:
        raise BadArgument("radius")
    if not all([is_box(box, MOST_SUN) for box in sun]):
        raise BadArgument("sun")
    spans = []
    free = max(begin, craft.start)
    for first, last, piece in shares(course(contents, craft, end).pieces, begin, end):
        way = way_over(sun, first, last)
        lights = [light_of(part, way, radius) for part in piece.parts]
        spans.append((first, last, agreed(lights, "either")))
        free = last + 1
    if free <= end:
        spans.append((free, end, "either"))
    told = runs_of(spans)
    return (told, _ticks(told, ["dark"]), _ticks(told, ["dark", "either"]), _longest_darkness(told))


def _ticks(spans, words):
    """The number of ticks of the spans that have one of some words."""
    return sum([last - first + 1 for first, last, word in spans if word in words])


def _longest_darkness(spans):
    longest = 0
    ticks = 0
    for first, last, word in spans:
        ticks = 0 if word == "lit" else ticks + last - first + 1
        longest = max(longest, ticks)
    return longest
