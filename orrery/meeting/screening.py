"""Screening: which pairs of a catalogue can come within a distance."""

from orrery.meeting.meetings import spans_of
from orrery.meeting.meetings import stretches_between
from orrery.ways.journeys import journey


def screen(contents, begin, end, distance):
    """The triples (name, name, span) of the pairs with a span that is not "impossible"."""
    crafts = contents.crafts
    journeys = [journey(contents.body, contents.fineness, craft, end) for craft in crafts]
    told = []
    for i in range(len(crafts)):
        for j in range(i + 1, len(crafts)):
            start = max(begin, crafts[i].start, crafts[j].start)
            stretches = stretches_between(journeys[i], journeys[j], start, end)
            span = _first_told(spans_of(stretches, distance))
            if span is not None:
                told.append((crafts[i].name, crafts[j].name, span))
    return told


def _first_told(spans):
    for span in spans:
        if span[2] != "impossible":
            return span
    return None
