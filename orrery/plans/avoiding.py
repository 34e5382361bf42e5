"""Avoiding: the first of some burns with which a craft keeps away from all others."""

from orrery.book.edits import apply_edit
from orrery.book.names import craft_of
from orrery.data import check_span
from orrery.errors import BadArgument
from orrery.errors import BeforeStart
from orrery.errors import BurnsOverlap
from orrery.errors import TooMany
from orrery.meeting.meetings import first_near
from orrery.stations.passes import check_mask
from orrery.stations.passes import passes_of
from orrery.stations.sites import Ground
from orrery.stations.turning import Turning
from orrery.ways.courses import course
from orrery.ways.journeys import journey

MOST_KEEPS = 10
MOST_BURNS = 20


def avoid(contents, name, begin, end, distance, keeps, burns):
    """The number of the first burn that is not hindered, or None, and the hindrances ahead of it."""
    craft_of(contents, name)
    check_span(begin, end)
    if distance < 0:
        raise BadArgument("distance")
    _check_keeps(keeps)
    if not 1 <= len(burns) <= MOST_BURNS:
        raise BadArgument("burns")
    demands = Demands(contents, name, begin, end, distance, keeps)
    hindrances = []
    for number, burn in enumerate(burns):
        hindrance = _hindrance(contents, name, burn, demands)
        if hindrance is None:
            return (number, hindrances)
        hindrances.append(hindrance)
    return (None, hindrances)


def _check_keeps(keeps):
    if len(keeps) > MOST_KEEPS:
        raise BadArgument("keeps")
    for _, begin, end, mask in keeps:
        check_span(begin, end)
        check_mask(mask)


class Demands:
    """What is asked of the craft of a name: to keep away from all others, and to keep contacts.

    What no burn of the craft changes, the journeys of the others and the ground of sites, is found once.
    """

    def __init__(self, contents, name, begin, end, distance, keeps):
        self._contents = contents
        self._others = [craft for craft in contents.crafts if craft.name != name]
        self._begin = begin
        self._end = end
        self._distance = distance
        self._keeps = list(keeps)
        self._journeys = {}
        turning = Turning(contents.body.turn)
        self._grounds = {site.name: Ground(turning, site) for site in contents.sites}

    def nearest(self, craft):
        """The pair (name, first tick) of the first other craft that a craft comes near to, or None."""
        told = self._journey_of(craft)
        for other in self._others:
            if other.name not in self._journeys:
                self._journeys[other.name] = self._journey_of(other)
            start = max(self._begin, craft.start, other.start)
            span = first_near(told, self._journeys[other.name], start, self._end, self._distance)
            if span is not None:
                return (other.name, span[0])
        return None

    def _journey_of(self, craft):
        return journey(self._contents.body, self._contents.fineness, craft, self._end)

    def first_lost(self, craft):
        """The number of the first contact that a craft does not keep, or None."""
        if not self._keeps:
            return None
        # The pieces that have ticks of one contact are the same in a course that goes on behind it.
        last = max([end for _, _, end, _ in self._keeps])
        pieces = course(self._contents, craft, last).pieces
        for number, keep in enumerate(self._keeps):
            if not self._is_kept(pieces, keep):
                return number
        return None

    def _is_kept(self, pieces, keep):
        name, begin, end, mask = keep
        ground = self._grounds.get(name)
        if ground is None:
            return False
        return passes_of(pieces, ground, begin, end, mask) == [(begin, end, "sure")]


def _hindrance(contents, name, burn, demands):
    """The hindrance of a burn, or None."""
    try:
        changed = apply_edit(contents, ("add burn", name, burn))
    except BeforeStart:
        return ("refused", "before the start", None)
    except BurnsOverlap:
        return ("refused", "overlap", None)
    except TooMany:
        return ("refused", "too many", None)
    craft = craft_of(changed, name)
    near = demands.nearest(craft)
    if near is not None:
        return ("near", near[0], near[1])
    lost = demands.first_lost(craft)
    if lost is not None:
        return ("lost", lost, None)
    return None
