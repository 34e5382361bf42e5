"""How texts are read: their lines are taken one by one, and the first one at fault is told."""

from orrery.data import MOST_FINENESS
from orrery.data import MOST_PLACE
from orrery.data import MOST_SPEED
from orrery.data import Body
from orrery.data import Burn
from orrery.data import Craft
from orrery.data import Sighting
from orrery.data import is_box
from orrery.data import is_drift
from orrery.data import is_name
from orrery.data import is_tick
from orrery.errors import BadArgument
from orrery.errors import BadText
from orrery.papers.lines import box_of
from orrery.papers.lines import numbers_of


class Taker:
    """The lines of a text; `line` is the number of the one that is looked at, counted from 1.

    Each method refuses the text with this number. A line is left behind by `go_on` only, when all
    that can be wrong in it was looked at.
    """

    def __init__(self, text):
        pieces = text.split("\n")
        self.line = 1
        self._lines = pieces[:-1]
        self._unended = pieces[-1]

    def comes(self, word):
        """True if the line looked at begins with this word, otherwise False."""
        if self.line > len(self._lines):
            return False
        return self._lines[self.line - 1].split(" ")[0] == word

    def words(self, word, many):
        """The words behind `word` in the line looked at; it has to have so many."""
        if not self.comes(word):
            raise BadText(self.line)
        behind = self._lines[self.line - 1].split(" ")[1:]
        if len(behind) != many:
            raise BadText(self.line)
        return behind

    def numbers(self, word, many):
        """The numbers behind `word` in the line looked at; it has to have so many."""
        return self.numbers_in(self.words(word, many))

    def numbers_in(self, words):
        """The numbers that words of the line looked at are."""
        numbers = numbers_of(words)
        if numbers is None:
            raise BadText(self.line)
        return numbers

    def box_in(self, numbers):
        """The box of six numbers of the line looked at."""
        box = box_of(numbers)
        if box is None:
            raise BadText(self.line)
        return box

    def go_on(self):
        """Looks at the next line."""
        self.line += 1

    def finish(self):
        """Refuses the text if something is left of it."""
        if self.line <= len(self._lines) or self._unended != "":
            raise BadText(self.line)


def take_header(taker, kind):
    """Takes the first line of a text of this kind."""
    if taker.words("orrery", 1) != [kind]:
        raise BadText(taker.line)
    taker.go_on()


def take_number(taker, word, least, most):
    """Takes a line of a word and a number from `least` to `most`."""
    number = taker.numbers(word, 1)[0]
    if not least <= number <= most:
        raise BadText(taker.line)
    taker.go_on()
    return number


def take_body(taker):
    """Takes the line of a body."""
    mu, oblateness, a, b, n = taker.numbers("body", 5)
    try:
        body = Body(mu, oblateness, (a, b, n))
    except BadArgument:
        raise BadText(taker.line) from None
    taker.go_on()
    return body


def take_fineness(taker):
    """Takes the line of the fineness."""
    return take_number(taker, "fineness", 0, MOST_FINENESS)


def take_craft(taker, before, most_burns, most_sightings):
    """Takes the lines of a craft whose name comes behind the name `before` ("" for any name).

    It may have any number of burns if `most_burns` is None, and likewise any number of sightings.
    """
    name, start, drift = _take_head(taker, before)
    place = _take_box(taker, "place", MOST_PLACE)
    speed = _take_box(taker, "speed", MOST_SPEED)
    burns = _take_burns(taker, start, most_burns)
    sightings = _take_sightings(taker, start, most_sightings)
    return Craft(name, start, place, speed, drift, burns, sightings)


def _take_head(taker, before):
    words = taker.words("craft", 3)
    name = words[0]
    start, drift = taker.numbers_in(words[1:])
    if not is_name(name) or name <= before or not is_tick(start) or not is_drift(drift):
        raise BadText(taker.line)
    taker.go_on()
    return (name, start, drift)


def _take_box(taker, word, most):
    box = taker.box_in(taker.numbers(word, 6))
    if not is_box(box, most):
        raise BadText(taker.line)
    taker.go_on()
    return box


def _take_burns(taker, start, most):
    burns = []
    earliest = start
    while taker.comes("burn"):
        burn = _burn_in(taker)
        if burn.begin < earliest or len(burns) == most:
            raise BadText(taker.line)
        taker.go_on()
        burns.append(burn)
        earliest = burn.end
    return burns


def _burn_in(taker):
    begin, end, *rest = taker.numbers("burn", 8)
    try:
        return Burn(begin, end, taker.box_in(rest))
    except BadArgument:
        raise BadText(taker.line) from None


def _take_sightings(taker, start, most):
    sightings = []
    earliest = start
    while taker.comes("seen"):
        sighting = _sighting_in(taker)
        if sighting.at < earliest or len(sightings) == most:
            raise BadText(taker.line)
        taker.go_on()
        sightings.append(sighting)
        earliest = sighting.at + 1
    return sightings


def _sighting_in(taker):
    at, *rest = taker.numbers("seen", 7)
    try:
        return Sighting(at, taker.box_in(rest))
    except BadArgument:
        raise BadText(taker.line) from None
