"""Certificates: claims where an object can be, and their texts."""

from orrery.errors import CourseLost
from orrery.errors import CourseVoid
from orrery.papers.lines import box_numbers
from orrery.papers.lines import number_line
from orrery.papers.lines import write_line
from orrery.papers.writing import body_line
from orrery.papers.writing import craft_lines
from orrery.ways.journeys import journey


class Certificate:
    """A claim, for each tick from the start of a craft on, of states one of which it is in."""

    def __init__(self, body, fineness, craft, claims):
        self.body = body
        self.fineness = fineness
        self.craft = craft
        self.claims = [list(claim) for claim in claims]


def certify(contents, craft, until):
    """The certificate of a craft up to a tick, which is at least its start."""
    told = journey(contents.body, contents.fineness, craft, until)
    if told.ending == "void":
        raise CourseVoid(told.broken)
    if told.ending == "lost":
        raise CourseLost(told.broken)
    return Certificate(contents.body, contents.fineness, craft, [moment.states for moment in told])


def certificate_text(certificate):
    """The text of a certificate."""
    lines = [
        write_line(["orrery", "certificate"]),
        body_line(certificate.body),
        number_line("fineness", [certificate.fineness]),
    ]
    lines.extend(craft_lines(certificate.craft))
    for claim in certificate.claims:
        lines.append(number_line("claim", [len(claim)]))
        for state in claim:
            lines.append(number_line("state", box_numbers(state.place) + box_numbers(state.speed)))
    return "".join(lines)
