"""Screening: which pairs of a catalogue can come within a distance."""

from orrery.meeting.meetings import first_near
from orrery.ways.journeys import journey


def screen(contents, begin, end, distance):
    """The triples (name, name, span) of the pairs with a span that is not "impossible"."""
    crafts = contents.crafts
    journeys = [journey(contents.body, contents.fineness, craft, end) for craft in crafts]
    told = []
    for i in range(len(crafts)):
        for j in range(i + 1, len(crafts)):
            start = max(begin, crafts[i].start, crafts[j].start)
            span = first_near(journeys[i], journeys[j], start, end, distance)
            if span is not None:
                told.append((crafts[i].name, crafts[j].name, span))
    return told
