"""The data: a body, crafts with their burns and sightings, sites, and contents."""

from orrery.errors import BadArgument

LAST_TICK = 100000
LONGEST_NAME = 12
NAME_SIGNS = "abcdefghijklmnopqrstuvwxyz0123456789_"
MOST_MU = 10 ** 30
MOST_OBLATENESS = 10 ** 30
MOST_TURN = 10 ** 6
MOST_PLACE = 10 ** 15
MOST_SPEED = 10 ** 15
MOST_PUSH = 10 ** 12
MOST_DRIFT = 10 ** 12
MOST_STRIDE = 1000
MOST_FINENESS = 6


def is_tick(number):
    """True if a number is a tick, otherwise False."""
    return 0 <= number <= LAST_TICK


def is_name(text):
    """True if a text is a name, otherwise False."""
    if not 1 <= len(text) <= LONGEST_NAME:
        return False
    return all([sign in NAME_SIGNS for sign in text])


def is_turn(turn):
    """True if a triple is a turn of a body, otherwise False."""
    a, b, n = turn
    return 1 <= n <= MOST_TURN and a * a + b * b == n * n


def is_box(box, most):
    """True if each interval has its low at most its high, and no number is beyond `most`."""
    return all([-most <= low <= high <= most for low, high in box])


def is_drift(number):
    """True if a number is a drift, otherwise False."""
    return 0 <= number <= MOST_DRIFT


def check_span(begin, end):
    """Raises an error if two numbers are not the first and the last tick of a span."""
    if not is_tick(begin):
        raise BadArgument("begin")
    if not is_tick(end) or end < begin:
        raise BadArgument("end")


class Body:
    """A body that pulls and turns."""

    def __init__(self, mu, oblateness, turn):
        if not 1 <= mu <= MOST_MU:
            raise BadArgument("mu")
        if not 0 <= oblateness <= MOST_OBLATENESS:
            raise BadArgument("oblateness")
        if not is_turn(turn):
            raise BadArgument("turn")
        self.mu = mu
        self.oblateness = oblateness
        self.turn = turn


class Burn:
    """A push that acts from its begin to the tick before its end."""

    def __init__(self, begin, end, push):
        if not is_tick(begin):
            raise BadArgument("begin")
        if not is_tick(end) or end <= begin:
            raise BadArgument("end")
        if not is_box(push, MOST_PUSH):
            raise BadArgument("push")
        self.begin = begin
        self.end = end
        self.push = push


class Sighting:
    """A box in which an object was seen at a tick."""

    def __init__(self, at, place):
        if not is_tick(at):
            raise BadArgument("at")
        if not is_box(place, MOST_PLACE):
            raise BadArgument("place")
        self.at = at
        self.place = place


class Craft:
    """An object: what is known of its start, its pushes and its sightings."""

    def __init__(self, name, start, place, speed, drift, burns=(), sightings=()):
        if not is_name(name):
            raise BadArgument("name")
        if not is_tick(start):
            raise BadArgument("start")
        if not is_box(place, MOST_PLACE):
            raise BadArgument("place")
        if not is_box(speed, MOST_SPEED):
            raise BadArgument("speed")
        if not is_drift(drift):
            raise BadArgument("drift")
        self.name = name
        self.start = start
        self.place = place
        self.speed = speed
        self.drift = drift
        self.burns = tuple(burns)
        self.sightings = tuple(sightings)


class Site:
    """A place on the body, as it is at tick 0."""

    def __init__(self, name, place):
        if not is_name(name):
            raise BadArgument("name")
        if place == (0, 0, 0) or not all([-MOST_PLACE <= number <= MOST_PLACE for number in place]):
            raise BadArgument("place")
        self.name = name
        self.place = place


class Contents:
    """What a catalogue holds."""

    def __init__(self, body, stride, fineness, crafts=(), sites=()):
        if not 1 <= stride <= MOST_STRIDE:
            raise BadArgument("stride")
        if not 0 <= fineness <= MOST_FINENESS:
            raise BadArgument("fineness")
        self.body = body
        self.stride = stride
        self.fineness = fineness
        self.crafts = tuple(crafts)
        self.sites = tuple(sites)


def craft_data(craft):
    """The data of a craft, a tuple of tuples and plain values."""
    burns = tuple([(burn.begin, burn.end, burn.push) for burn in craft.burns])
    sightings = tuple([(sighting.at, sighting.place) for sighting in craft.sightings])
    return (craft.name, craft.start, craft.place, craft.speed, craft.drift, burns, sightings)


def body_data(body):
    """The data of a body, a tuple."""
    return (body.mu, body.oblateness, body.turn)


def contents_data(contents):
    """The data of contents, a tuple of tuples and plain values."""
    crafts = tuple([craft_data(craft) for craft in contents.crafts])
    sites = tuple([(site.name, site.place) for site in contents.sites])
    return (body_data(contents.body), contents.stride, contents.fineness, crafts, sites)


def same_craft(first, second):
    """True if the data of two crafts are equal, otherwise False."""
    return craft_data(first) == craft_data(second)
