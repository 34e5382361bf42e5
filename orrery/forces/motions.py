"""Motions: lists of pairs (place, speed) of points, one for each tick from the start on."""

from orrery.forces.pull import pull
from orrery.space.boxes import box_has
from orrery.space.boxes import box_middle
from orrery.space.boxes import box_widened
from orrery.space.boxes import point_add
from orrery.space.boxes import point_box
from orrery.space.boxes import point_subtract

CENTRE = (0, 0, 0)
REST = (0, 0, 0)


def push_at(craft, at):
    """The push of a craft at a tick, a box."""
    for burn in craft.burns:
        if burn.begin <= at < burn.end:
            return burn.push
    return point_box(REST)


def advance(body, place, speed, push):
    """The pair (place, speed) of the next tick; `place` is not the centre, `push` is a point."""
    drawn = point_add(speed, pull(body, place))
    pushed = point_add(drawn, push)
    return (point_add(place, pushed), pushed)


def first_breach(body, craft, motion):
    """The first breach (tick, word) of a motion, or None if it obeys."""
    place, speed = motion[0]
    if not box_has(craft.place, place):
        return (craft.start, "place")
    if not box_has(craft.speed, speed):
        return (craft.start, "speed")
    for number, pair in enumerate(motion):
        at = craft.start + number
        if not _seen_there(craft, at, pair[0]):
            return (at, "seen")
        if number + 1 < len(motion):
            breach = _step_breach(body, craft, at, pair, motion[number + 1])
            if breach is not None:
                return breach
    return None


def _seen_there(craft, at, place):
    return all([box_has(sighting.place, place) for sighting in craft.sightings if sighting.at == at])


def _step_breach(body, craft, at, pair, after):
    place, speed = pair
    new_place, new_speed = after
    if place == CENTRE:
        return (at, "centre")
    drawn = point_add(speed, pull(body, place))
    # A member of the push plus an unknown push is any member of the widened push, and no other point.
    if not box_has(box_widened(push_at(craft, at), craft.drift), point_subtract(new_speed, drawn)):
        return (at + 1, "push")
    if new_place != point_add(place, new_speed):
        return (at + 1, "step")
    return None


def obeys(body, craft, motion):
    """True if a motion obeys the data of a craft, otherwise False."""
    return first_breach(body, craft, motion) is None


def middle_motion(body, craft, until):
    """The middle motion of a craft up to a tick, which is at least its start."""
    motion = [(box_middle(craft.place), box_middle(craft.speed))]
    for at in range(craft.start, until):
        place, speed = motion[-1]
        if place == CENTRE:
            return motion
        motion.append(advance(body, place, speed, box_middle(push_at(craft, at))))
    return motion
