"""Steps of a state to the next tick, and cuts by sightings."""

from orrery.forces.pull import pull_over
from orrery.space.boxes import box_add
from orrery.space.boxes import box_meet
from orrery.space.boxes import box_size
from orrery.space.boxes import box_widened
from orrery.ways.parts import State

LIMIT = 10 ** 40


def step(body, state, push, drift):
    """The state of the next tick, or None if it is lost."""
    drawn = pull_over(body, state.place)
    if drawn is None:
        return None
    speed = box_widened(box_add(box_add(state.speed, drawn), push), drift)
    place = box_add(state.place, speed)
    if box_size(place) > LIMIT or box_size(speed) > LIMIT:
        return None
    return State(place, speed)


def cut(state, box):
    """The state cut by the box of a sighting, or None if it is dropped."""
    place = box_meet(state.place, box)
    if place is None:
        return None
    return State(place, state.speed)
