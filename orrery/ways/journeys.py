"""Journeys: the states of an object at each tick from its start on."""

from orrery.forces.motions import push_at
from orrery.space.boxes import box_hull_of
from orrery.ways.parts import State
from orrery.ways.parts import parts_of
from orrery.ways.steps import cut
from orrery.ways.steps import step


class Moment:
    """A tick and the states of an object at it, at least one."""

    def __init__(self, at, states):
        self.at = at
        self.states = list(states)

    def place(self):
        """The hull of the places of the states."""
        return box_hull_of([state.place for state in self.states])

    def speed(self):
        """The hull of the speeds of the states."""
        return box_hull_of([state.speed for state in self.states])


class Journey:
    """Moments in the order of their ticks, and how they end."""

    def __init__(self, moments, ending, broken):
        self.moments = list(moments)
        self.ending = ending
        self.broken = broken
        # Meetings ask for the moments of many ticks, one by one.
        self._by_tick = {moment.at: moment for moment in self.moments}

    def __iter__(self):
        """The moments, one by one."""
        return iter(self.moments)

    def moment(self, at):
        """The moment of a tick, or None."""
        return self._by_tick.get(at)


def sighting_at(craft, at):
    """The box of the sighting of a craft at a tick, or None."""
    for sighting in craft.sightings:
        if sighting.at == at:
            return sighting.place
    return None


def journey(body, fineness, craft, until):
    """The journey of a craft up to a tick."""
    told, _ = traced(body, fineness, craft, until)
    return told


def traced(body, fineness, craft, until):
    """The journey of a craft up to a tick, and the sources of its moments.

    The sources of a moment are the numbers, counted from 0, of the states of the moment before it
    (of the parts of the start, for the first one) out of which its states came, in order.
    """
    moments = []
    sources = []
    found = parts_of(State(craft.place, craft.speed), fineness)
    for at in range(craft.start, until + 1):
        if at > craft.start:
            found = steps_of(body, craft, at - 1, moments[-1].states)
        if found is None:
            return (Journey(moments, "lost", at), sources)
        left = left_of(craft, at, found)
        if not left:
            return (Journey(moments, "void", at), sources)
        moments.append(Moment(at, [state for _, state in left]))
        sources.append([number for number, _ in left])
    return (Journey(moments, "whole", None), sources)


def steps_of(body, craft, at, states):
    """The steps of states from a tick to the next one, or None if one of them is lost."""
    push = push_at(craft, at)
    found = []
    for state in states:
        after = step(body, state, push, craft.drift)
        if after is None:
            return None
        found.append(after)
    return found


def left_of(craft, at, states):
    """The pairs (number, state) of the states that the sighting at a tick leaves."""
    box = sighting_at(craft, at)
    left = []
    for number, state in enumerate(states):
        kept = state if box is None else cut(state, box)
        if kept is not None:
            left.append((number, kept))
    return left
