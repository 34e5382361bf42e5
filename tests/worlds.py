"""What several tests share: bodies, crafts, and motions that obey their data."""

from fractions import Fraction
from math import floor, isqrt

from orrery.data import Body, Burn, Contents, Craft, Sighting

STILL = ((0, 0), (0, 0), (0, 0))


def cube(x, y, z, half):
    """The box around a point, so many numbers to each side."""
    return ((x - half, x + half), (y - half, y + half), (z - half, z + half))


def a_body(mu=10 ** 9, oblateness=0):
    return Body(mu, oblateness, (1, 0, 1))


def a_craft(name="a", start=0, place=STILL, speed=STILL, drift=0, burns=(), sightings=()):
    return Craft(name, start, place, speed, drift, burns, sightings)


def contents(body, crafts=(), stride=1, fineness=0):
    return Contents(body, stride, fineness, crafts)


def orbiter(name="a", start=3, drift=1, sightings=()):
    """A craft on its way around a body of mu 10 ** 9, with two burns that touch."""
    burns = [Burn(start + 2, start + 4, ((1, 3), (-2, 0), (0, 5))), Burn(start + 4, start + 5, cube(7, 7, 7, 0))]
    return a_craft(name, start, cube(10000, 200, -300, 4), cube(10, 300, 20, 2), drift, burns, sightings)


def member(rng, box):
    return tuple([rng.randint(low, high) for low, high in box])


def slow_pull(body, p):
    """The pull of point [14] by fractions, each quotient rounded down once."""
    s = sum([c * c for c in p])
    r = isqrt(s)
    pulled = []
    for c, k in zip(p, (1, 1, 3)):
        bulge = Fraction(body.oblateness * c * (5 * p[2] ** 2 - k * s), s ** 3 * r)
        pulled.append(floor(Fraction(-body.mu * c, s * r)) + floor(bulge))
    return tuple(pulled)


def slow_push(craft, at):
    for burn in craft.burns:
        if at in range(burn.begin, burn.end):
            return burn.push
    return STILL


def obeying_motion(rng, body, craft, until):
    """A motion that obeys all data of a craft but its sightings."""
    place, speed = member(rng, craft.place), member(rng, craft.speed)
    motion = [(place, speed)]
    for at in range(craft.start, until):
        b = member(rng, slow_push(craft, at))
        u = member(rng, cube(0, 0, 0, craft.drift))
        speed = tuple([sum(parts) for parts in zip(speed, slow_pull(body, place), b, u)])
        place = tuple([c + v for c, v in zip(place, speed)])
        motion.append((place, speed))
    return motion


def seen_at(motion, start, at, half):
    """A sighting around the place of a motion at a tick."""
    return Sighting(at, cube(*motion[at - start][0], half))


def rows(states):
    """States as pairs of boxes, which can be compared."""
    return [(state.place, state.speed) for state in states]


FAR = 10 ** 12
# Where no coordinate is above 0, its pull is so little that it is rounded to 0: all goes straight on there.
FEEBLE = Body(1, 0, (1, 0, 1))


def glider(name="a", start=0, place=(0, 0, 0), rate=(0, 0, 0), half=0, sightings=(), burns=()):
    """A craft around a place as seen from (-FAR, 0, 0), none of whose coordinates gets above 0 there.

    Under the feeble body it goes on by its rate at each tick; of its place each number is known up to `half`.
    """
    x, y, z = place
    speed = tuple([(number, number) for number in rate])
    return a_craft(name, start, cube(x - FAR, y, z, half), speed, 0, burns, sightings)


def by_tick(spans):
    """The words of spans (first tick, last tick, word), by tick; no tick may be in two of them."""
    told = {}
    for first, last, word in spans:
        for at in range(first, last + 1):
            assert at not in told
            told[at] = word
    return told


def as_runs(words):
    """The longest spans of neighbouring ticks with the same word."""
    spans = []
    for at, word in sorted(words.items()):
        if spans and spans[-1][1:] == (at - 1, word):
            spans[-1] = (spans[-1][0], at, word)
        else:
            spans.append((at, at, word))
    return spans
