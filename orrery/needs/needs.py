"""Needs: how often the data of a craft have to be halved for a question to be decided."""

from orrery.data import Craft
from orrery.data import check_span
from orrery.data import is_tick
from orrery.data import same_craft
from orrery.errors import BadArgument
from orrery.meeting.meetings import first_near
from orrery.space.intervals import middle
from orrery.space.intervals import width
from orrery.stations.passes import check_mask
from orrery.stations.passes import passes_of
from orrery.stations.sites import Ground
from orrery.stations.turning import Turning
from orrery.ways.courses import course
from orrery.ways.journeys import journey

MOST_HALVINGS = 10
MOST_WIDTH = 10 ** 15
PARTS = ("place", "speed", "both")


def halved(interval, count):
    """An interval halved so many times, `count` being at least 0."""
    low, high = interval
    half = middle(interval)
    return (half - ((half - low) >> count), half + ((high - half) >> count))


def halved_craft(craft, what, count):
    """A craft with the box of its "place", of its "speed" or of "both" halved."""
    place = craft.place
    speed = craft.speed
    if what != "speed":
        place = _halved_box(place, count)
    if what != "place":
        speed = _halved_box(speed, count)
    return Craft(craft.name, craft.start, place, speed, craft.drift, craft.burns, craft.sightings)


def _halved_box(box, count):
    x, y, z = box
    return (halved(x, count), halved(y, count), halved(z, count))


def need_far(contents, first, second, begin, end, distance):
    """The need of a craft to be surely beyond a distance of a second one."""
    check_span(begin, end)
    if distance < 0:
        raise BadArgument("distance")
    other = journey(contents.body, contents.fineness, second, end)
    start = max(begin, first.start, second.start)

    def is_far(tried):
        told = journey(contents.body, contents.fineness, tried, end)
        return first_near(told, other, start, end, distance) is None

    return _need(first, is_far)


def need_thin(contents, craft, at, most):
    """The need of a craft for no interval of its box at a tick to be wider than `most`."""
    if not is_tick(at):
        raise BadArgument("at")
    if not 0 <= most <= MOST_WIDTH:
        raise BadArgument("most")

    def is_thin(tried):
        box = _box_at(contents, tried, at)
        return box is not None and all([width(interval) <= most for interval in box])

    return _need(craft, is_thin)


def _box_at(contents, craft, at):
    """The box of a craft during the piece that has a tick, or None; at its start that of its place."""
    if at == craft.start:
        return craft.place
    for piece in course(contents, craft, at).pieces:
        if piece.begin <= at <= piece.end:
            return piece.during()
    return None


def need_pass(contents, craft, site, begin, end, mask):
    """The need of a craft for its passes over a site to be without a "possible" one."""
    check_span(begin, end)
    check_mask(mask)
    ground = Ground(Turning(contents.body.turn), site)

    def is_told(tried):
        if tried.start > end:
            return True
        spans = passes_of(course(contents, tried, end).pieces, ground, begin, end, mask)
        if not spans or spans[-1][1] != end:
            return False
        return all([verdict != "possible" for _, _, verdict in spans])

    return _need(craft, is_told)


def _need(craft, is_decided):
    """The triple of the numbers of halvings with which something is decided."""
    # To halve nothing is the same for all three.
    if is_decided(craft):
        return (0, 0, 0)
    return tuple([_least(craft, what, is_decided) for what in PARTS])


def _least(craft, what, is_decided):
    """The least number of halvings, from 1 on, with which something is decided, or None."""
    before = craft
    for count in range(1, MOST_HALVINGS + 1):
        tried = halved_craft(craft, what, count)
        # With the same data as before it is not decided either.
        if not same_craft(tried, before) and is_decided(tried):
            return count
        before = tried
    return None
