"""What is known of the facts and quantities of crafts, up to the last tick of a question."""

from orrery.book.names import craft_of
from orrery.book.names import site_of
from orrery.errors import NoSuchCraft
from orrery.errors import NoSuchSite
from orrery.errors import NothingKnown
from orrery.questions.overlaps import overlaps
from orrery.questions.spans import joined
from orrery.space.boxes import box_subtract
from orrery.space.boxes import square_length
from orrery.space.intervals import root
from orrery.stations.passes import MOST_MASK
from orrery.stations.passes import passes_of
from orrery.stations.sites import Ground
from orrery.stations.turning import Turning
from orrery.ways.courses import course

COORDINATES = ("x", "y", "z")
MOST_MASK_DIGITS = 10


class Known:
    """The facts and quantities of the crafts of contents; what was asked for is kept."""

    def __init__(self, contents, last):
        self.crafts = contents.crafts
        self.last = last
        self._contents = contents
        self._turning = Turning(contents.body.turn)
        self._pieces = {}
        self._boxes = {}
        self._grounds = {}
        self._told = {}

    def quantity(self, word, names):
        """The enclosures of the quantity of a word and names."""
        return self._kept("quantity", word, names)

    def fact(self, word, names):
        """The line of the fact of a word and names."""
        return self._kept("fact", word, names)

    def _kept(self, kind, word, names):
        key = (kind, word, names)
        if key not in self._told:
            self._told[key] = self._found(kind, word, names)
        return self._told[key]

    def _found(self, kind, word, names):
        """What is known; where that is nothing, whatever the cause, the word is told."""
        try:
            if kind == "fact":
                found = self._fact(word, names)
            else:
                found = self._quantity(word, names)
        except (NoSuchCraft, NoSuchSite):
            raise NothingKnown(word) from None
        if found is None:
            raise NothingKnown(word)
        return found

    def _quantity(self, word, names):
        match names:
            case (name,) if word in COORDINATES:
                number = COORDINATES.index(word)
                return [(begin, end, box[number]) for begin, end, box in self._boxes_of(name)]
            case (name,) if word == "radius":
                return [(begin, end, _length(box)) for begin, end, box in self._boxes_of(name)]
            case (first, second) if word == "distance":
                return self._distance(first, second)
            case _:
                return None

    def _distance(self, first, second):
        found = []
        for begin, end, one, other in overlaps(self._boxes_of(first), self._boxes_of(second)):
            found.append((begin, end, _length(box_subtract(one[2], other[2]))))
        return found

    def _fact(self, word, names):
        match names:
            case (name, site, mask) if word == "sees":
                return self._sees(name, site, mask)
            case (name,) if word == "burning":
                return _burning(craft_of(self._contents, name), self.last)
            case (first, second) if word == "same":
                return self._same(first, second)
            case _:
                return None

    def _sees(self, name, site, mask):
        craft_of(self._contents, name)
        ground = self._ground_of(site)
        least = _mask_of(mask)
        if least is None:
            return None
        spans = passes_of(self._pieces_of(name), ground, 0, self.last, least)
        return (_spans_with(spans, "sure"), _spans_with(spans, "never"))

    def _same(self, first, second):
        whole = [(0, self.last)]
        if craft_of(self._contents, first).name == craft_of(self._contents, second).name:
            return (whole, [])
        return ([], whole)

    def _boxes_of(self, name):
        """The tuples (begin, end, box) of the pieces of a craft."""
        if name not in self._boxes:
            pieces = self._pieces_of(name)
            self._boxes[name] = [(piece.begin, piece.end, piece.during()) for piece in pieces]
        return self._boxes[name]

    def _pieces_of(self, name):
        if name not in self._pieces:
            craft = craft_of(self._contents, name)
            self._pieces[name] = course(self._contents, craft, self.last).pieces
        return self._pieces[name]

    def _ground_of(self, name):
        if name not in self._grounds:
            self._grounds[name] = Ground(self._turning, site_of(self._contents, name))
        return self._grounds[name]


def _length(box):
    return root(square_length(box))


def _mask_of(word):
    """The mask that a word is, or None."""
    if len(word) > MOST_MASK_DIGITS or not word.isdigit() or int(word) > MOST_MASK:
        return None
    return int(word)


def _spans_with(spans, verdict):
    return [(first, last) for first, last, word in spans if word == verdict]


def _burning(craft, last):
    """The line of: a burn of the craft acts."""
    yes = []
    no = []
    free = craft.start
    for burn in craft.burns:
        no.append((free, burn.begin - 1))
        yes.append((burn.begin, burn.end - 1))
        free = burn.end
    no.append((free, last))
    return (joined(yes), joined(no))
