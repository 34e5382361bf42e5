"""The checker: whether the claims of a certificate are surely so."""

from orrery.ways.journeys import left_of
from orrery.ways.journeys import steps_of
from orrery.ways.parts import State
from orrery.ways.parts import parts_of
from orrery.ways.parts import state_inside


def refused_at(certificate):
    """The first tick at which a certificate is refused, or None if it is accepted."""
    craft = certificate.craft
    reached = parts_of(State(craft.place, craft.speed), certificate.fineness)
    # Where there is no first claim, nothing is inside a state of it.
    claims = certificate.claims or [[]]
    for number, claim in enumerate(claims):
        at = craft.start + number
        if number > 0:
            reached = steps_of(certificate.body, craft, at - 1, claims[number - 1])
        if reached is None or not _all_claimed(craft, at, reached, claim):
            return at
    return None


def accepted(certificate):
    """True if a certificate is accepted, otherwise False."""
    return refused_at(certificate) is None


def _all_claimed(craft, at, reached, claim):
    """True if each state that the sighting at a tick leaves is inside some state of the claim."""
    for _, state in left_of(craft, at, reached):
        if not any([state_inside(state, claimed) for claimed in claim]):
            return False
    return True
