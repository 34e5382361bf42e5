"""Avoiding: the first of some burns with which a craft keeps away from all others."""

from orrery.book.edits import apply_edit
from orrery.book.names import craft_of
from orrery.book.names import site_of
from orrery.data import check_span
from orrery.errors import BadArgument
from orrery.errors import BeforeStart
from orrery.errors import BurnsOverlap
from orrery.errors import NoSuchSite
from orrery.errors import TooMany
from orrery.meeting.meetings import first_near
from orrery.stations.passes import check_mask
from orrery.stations.passes import passes
from orrery.ways.journeys import journey

MOST_KEEPS = 10
MOST_BURNS = 20


def avoid(contents, name, begin, end, distance, keeps, burns):
    """The number of the first burn that is not hindered, or None, and the hindrances ahead of it."""
    craft_of(contents, name)
    check_span(begin, end)
    if distance < 0:
        raise BadArgument("distance")
    _check_keeps(keeps)
    if not 1 <= len(burns) <= MOST_BURNS:
        raise BadArgument("burns")
    others = Others(contents, name, begin, end, distance)
    hindrances = []
    for number, burn in enumerate(burns):
        hindrance = _hindrance(contents, name, burn, others, keeps)
        if hindrance is None:
            return (number, hindrances)
        hindrances.append(hindrance)
    return (None, hindrances)


def _check_keeps(keeps):
    if len(keeps) > MOST_KEEPS:
        raise BadArgument("keeps")
    for _, begin, end, mask in keeps:
        check_span(begin, end)
        check_mask(mask)


class Others:
    """The crafts of contents but one, from a tick to another one, and a distance to keep from them.

    Their journeys are kept: no burn of the one craft changes them.
    """

    def __init__(self, contents, name, begin, end, distance):
        self._contents = contents
        self._name = name
        self._begin = begin
        self._end = end
        self._distance = distance
        self._journeys = {}

    def nearest(self, craft):
        """The pair (name, first tick) of the first other craft that a craft comes near to, or None."""
        told = self._journey_of(craft)
        for other in self._contents.crafts:
            if other.name == self._name:
                continue
            if other.name not in self._journeys:
                self._journeys[other.name] = self._journey_of(other)
            start = max(self._begin, craft.start, other.start)
            span = first_near(told, self._journeys[other.name], start, self._end, self._distance)
            if span is not None:
                return (other.name, span[0])
        return None

    def _journey_of(self, craft):
        return journey(self._contents.body, self._contents.fineness, craft, self._end)


def _hindrance(contents, name, burn, others, keeps):
    """The hindrance of a burn, or None."""
    try:
        changed = apply_edit(contents, ("add burn", name, burn))
    except BeforeStart:
        return ("refused", "before the start", None)
    except BurnsOverlap:
        return ("refused", "overlap", None)
    except TooMany:
        return ("refused", "too many", None)
    craft = craft_of(changed, name)
    near = others.nearest(craft)
    if near is not None:
        return ("near", near[0], near[1])
    for number, keep in enumerate(keeps):
        if not _is_kept(changed, craft, keep):
            return ("lost", number, None)
    return None


def _is_kept(contents, craft, keep):
    """True if a craft keeps a contact, otherwise False."""
    name, begin, end, mask = keep
    try:
        site = site_of(contents, name)
    except NoSuchSite:
        return False
    return passes(contents, craft, site, begin, end, mask) == [(begin, end, "sure")]
