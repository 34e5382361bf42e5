"""The lines that texts of certificates and of contents have in common."""

from orrery.papers.lines import box_numbers
from orrery.papers.lines import digits_of
from orrery.papers.lines import number_line
from orrery.papers.lines import write_line


def body_line(body):
    """The line of a body."""
    a, b, n = body.turn
    return number_line("body", [body.mu, body.oblateness, a, b, n])


def craft_lines(craft):
    """The lines of a craft, with its burns and sightings."""
    lines = [
        write_line(["craft", craft.name, digits_of(craft.start), digits_of(craft.drift)]),
        number_line("place", box_numbers(craft.place)),
        number_line("speed", box_numbers(craft.speed)),
    ]
    for burn in craft.burns:
        lines.append(number_line("burn", [burn.begin, burn.end] + box_numbers(burn.push)))
    for sighting in craft.sightings:
        lines.append(number_line("seen", [sighting.at] + box_numbers(sighting.place)))
    return lines
