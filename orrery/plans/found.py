"""The contacts of a catalogue: the sure passes of its crafts over its sites."""

from orrery.data import check_span
from orrery.errors import BadArgument
from orrery.stations.passes import check_mask
from orrery.stations.passes import passes_of
from orrery.stations.sites import Ground
from orrery.stations.turning import Turning
from orrery.ways.courses import course

MOST_CRAFT_WEIGHT = 1000


def contacts_of(contents, begin, end, mask, least, weights):
    """The contacts of contents from one tick to another one."""
    check_span(begin, end)
    check_mask(mask)
    if least < 1:
        raise BadArgument("least")
    _check_weights(weights, len(contents.crafts))
    turning = Turning(contents.body.turn)
    grounds = [Ground(turning, site) for site in contents.sites]
    contacts = []
    for number, craft in enumerate(contents.crafts):
        weight = weights[number] if number < len(weights) else 1
        pieces = course(contents, craft, end).pieces
        for site_number, ground in enumerate(grounds):
            for first, ticks in _sure(passes_of(pieces, ground, begin, end, mask), least):
                contacts.append((number, site_number, first, first + ticks - 1, ticks * weight))
    return contacts


def _check_weights(weights, most):
    if len(weights) > most or not all([0 <= weight <= MOST_CRAFT_WEIGHT for weight in weights]):
        raise BadArgument("weights")


def _sure(spans, least):
    """The pairs (first tick, number of ticks) of the spans that are sure and long enough."""
    sure = [(first, last - first + 1) for first, last, verdict in spans if verdict == "sure"]
    return [(first, ticks) for first, ticks in sure if ticks >= least]
