"""Passes: when a craft surely stands high enough over a site, and when it surely does not."""

from orrery.data import check_span
from orrery.errors import BadArgument
from orrery.space.boxes import box_subtract
from orrery.space.boxes import inner_product
from orrery.space.boxes import square_length
from orrery.stations.sites import Ground
from orrery.stations.turning import Turning
from orrery.ways.courses import course
from orrery.ways.runs import agreed
from orrery.ways.runs import runs_of
from orrery.ways.runs import shares

MOST_MASK = 10 ** 9


def elevation(box, site_box, mask):
    """Whether the points of a box stand high enough over those of the box of a site."""
    away = box_subtract(box, site_box)
    low, high = inner_product(away, site_box)
    far = square_length(away)
    deep = square_length(site_box)
    # Squares of sines are compared, and the mask tells a sine in units of 1 / MOST_MASK.
    unit = MOST_MASK * MOST_MASK
    if low >= 0 and mask * mask * far[1] * deep[1] <= unit * low * low:
        return "sure"
    if high < 0 or unit * high * high < mask * mask * far[0] * deep[0]:
        return "never"
    return "possible"


def check_mask(mask):
    """Raises an error if a mask is out of its bounds."""
    if not 0 <= mask <= MOST_MASK:
        raise BadArgument("mask")


def passes(contents, craft, site, begin, end, mask):
    """The spans (first tick, last tick, verdict) of the passes of a craft over a site."""
    check_span(begin, end)
    check_mask(mask)
    ground = Ground(Turning(contents.body.turn), site)
    return passes_of(course(contents, craft, end).pieces, ground, begin, end, mask)


def passes_of(pieces, ground, begin, end, mask):
    """The spans of the passes of the pieces of a course, up to `end`, over the ground of a site."""
    spans = []
    for first, last, piece in shares(pieces, begin, end):
        site_box = ground.over(first, last)
        verdicts = [elevation(part, site_box, mask) for part in piece.parts]
        spans.append((first, last, agreed(verdicts, "possible")))
    return runs_of(spans)
