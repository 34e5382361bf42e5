"""Batteries: between which bounds the charge surely lies."""

from orrery.errors import BadArgument
from orrery.light.shadow import light

MOST_CHARGE = 10 ** 18
MOST_USE = 10 ** 12
MOST_GAIN = 10 ** 12


def charge_after(battery, charge, spans):
    """The tuple (least, greatest, lowest) of a charge over spans of light."""
    most, use, gain = battery
    least = charge
    greatest = charge
    lowest = charge
    for first, last, word in spans:
        ticks = last - first + 1
        in_light = ticks * (gain - use)
        in_dark = -ticks * use
        least = _within(least + (in_light if word == "lit" else in_dark), most)
        greatest = _within(greatest + (in_dark if word == "dark" else in_light), most)
        lowest = min(lowest, least)
    return (least, greatest, lowest)


def _within(number, most):
    # In a span the charge goes the same way at all ticks: a bound that is reached is not left again.
    return max(0, min(number, most))


def charge(contents, craft, begin, end, radius, sun, battery, before):
    """That tuple over the spans of light of a craft, from the charge `before` on."""
    spans, _, _, _ = light(contents, craft, begin, end, radius, sun)
    most, use, gain = battery
    if not 0 <= most <= MOST_CHARGE or not 0 <= use <= MOST_USE or not 0 <= gain <= MOST_GAIN:
        raise BadArgument("battery")
    if not 0 <= before <= most:
        raise BadArgument("charge")
    return charge_after(battery, before, spans)
