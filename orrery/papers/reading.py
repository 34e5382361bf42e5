"""How texts of certificates are read."""

from orrery.errors import BadText
from orrery.papers.certificates import Certificate
from orrery.papers.taking import Taker
from orrery.papers.taking import take_body
from orrery.papers.taking import take_craft
from orrery.papers.taking import take_fineness
from orrery.papers.taking import take_header
from orrery.ways.parts import State


def read_certificate(text):
    """The certificate whose text this is."""
    taker = Taker(text)
    take_header(taker, "certificate")
    body = take_body(taker)
    fineness = take_fineness(taker)
    craft = take_craft(taker, "", None, None)
    claims = [_take_claim(taker)]
    while taker.comes("claim"):
        claims.append(_take_claim(taker))
    taker.finish()
    return Certificate(body, fineness, craft, claims)


def _take_claim(taker):
    many = taker.numbers("claim", 1)[0]
    if many < 0:
        raise BadText(taker.line)
    taker.go_on()
    return [_take_state(taker) for _ in range(many)]


def _take_state(taker):
    numbers = taker.numbers("state", 12)
    state = State(taker.box_in(numbers[:6]), taker.box_in(numbers[6:]))
    taker.go_on()
    return state
