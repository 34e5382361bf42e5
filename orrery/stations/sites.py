"""Where sites are: boxes of them at a tick, and over several ticks."""

from orrery.space.boxes import box_hull
from orrery.space.intervals import add
from orrery.space.intervals import scaled
from orrery.stations.turning import SCALE
from orrery.stations.turning import Turning
from orrery.stations.turning import rounded


def site_at(body, site, tick):
    """The box of a site at a tick."""
    return Ground(Turning(body.turn), site).box_at(tick)


def site_over(body, site, begin, end):
    """The least box that has the boxes of a site at all ticks from `begin` to `end` inside."""
    return Ground(Turning(body.turn), site).over(begin, end)


class Ground:
    """The boxes of a site; those over several ticks are kept, because many crafts ask for the same."""

    def __init__(self, turning, site):
        self._turning = turning
        self._place = site.place
        self._boxes = {}

    def box_at(self, tick):
        """The box at a tick."""
        x, y, z = self._place
        c, s = self._turning.power(tick)
        along = rounded(add(scaled(c, x), scaled(s, -y)), SCALE)
        across = rounded(add(scaled(s, x), scaled(c, y)), SCALE)
        return (along, across, (z, z))

    def over(self, begin, end):
        """The box over the ticks from `begin` to `end`."""
        box = self._boxes.get((begin, end))
        if box is None:
            box = self.box_at(begin)
            for tick in range(begin + 1, end + 1):
                box = box_hull(box, self.box_at(tick))
            self._boxes[(begin, end)] = box
        return box
