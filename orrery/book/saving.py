"""Saved contents: their text, and how it is read."""

from orrery.book.edits import MOST_BURNS
from orrery.book.edits import MOST_CRAFTS
from orrery.book.edits import MOST_SIGHTINGS
from orrery.book.edits import MOST_SITES
from orrery.data import MOST_STRIDE
from orrery.data import Contents
from orrery.data import Site
from orrery.errors import BadArgument
from orrery.errors import BadText
from orrery.papers.lines import digits_of
from orrery.papers.lines import number_line
from orrery.papers.lines import write_line
from orrery.papers.taking import Taker
from orrery.papers.taking import take_body
from orrery.papers.taking import take_craft
from orrery.papers.taking import take_fineness
from orrery.papers.taking import take_header
from orrery.papers.taking import take_number
from orrery.papers.writing import body_line
from orrery.papers.writing import craft_lines


def saved_text(contents):
    """The saved text of contents."""
    lines = [
        write_line(["orrery", "contents"]),
        body_line(contents.body),
        number_line("stride", [contents.stride]),
        number_line("fineness", [contents.fineness]),
    ]
    for craft in contents.crafts:
        lines.extend(craft_lines(craft))
    for site in contents.sites:
        lines.append(write_line(["site", site.name] + [digits_of(number) for number in site.place]))
    return "".join(lines)


def read_saved(text):
    """The contents whose saved text this is."""
    taker = Taker(text)
    take_header(taker, "contents")
    body = take_body(taker)
    stride = take_number(taker, "stride", 1, MOST_STRIDE)
    fineness = take_fineness(taker)
    crafts = _take_crafts(taker)
    sites = _take_sites(taker)
    taker.finish()
    return Contents(body, stride, fineness, crafts, sites)


def _take_crafts(taker):
    crafts = []
    before = ""
    while taker.comes("craft"):
        if len(crafts) == MOST_CRAFTS:
            raise BadText(taker.line)
        crafts.append(take_craft(taker, before, MOST_BURNS, MOST_SIGHTINGS))
        before = crafts[-1].name
    return crafts


def _take_sites(taker):
    sites = []
    before = ""
    while taker.comes("site"):
        site = _site_in(taker)
        if site.name <= before or len(sites) == MOST_SITES:
            raise BadText(taker.line)
        taker.go_on()
        sites.append(site)
        before = site.name
    return sites


def _site_in(taker):
    words = taker.words("site", 4)
    x, y, z = taker.numbers_in(words[1:])
    try:
        return Site(words[0], (x, y, z))
    except BadArgument:
        raise BadText(taker.line) from None
