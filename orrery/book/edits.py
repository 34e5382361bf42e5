"""Edits: how contents are made out of other contents."""

from orrery.book.names import craft_of
from orrery.book.names import site_of
from orrery.data import Contents
from orrery.data import Craft
from orrery.errors import BadArgument
from orrery.errors import BeforeStart
from orrery.errors import BurnsOverlap
from orrery.errors import NoSuchBurn
from orrery.errors import NoSuchSighting
from orrery.errors import TooMany

MOST_CRAFTS = 20
MOST_BURNS = 20
MOST_SIGHTINGS = 20
MOST_SITES = 10


def apply_edit(contents, edit):
    """The new contents that an edit makes."""
    match edit:
        case ("set body", body):
            return Contents(body, contents.stride, contents.fineness, contents.crafts, contents.sites)
        case ("set stride", number):
            return Contents(contents.body, number, contents.fineness, contents.crafts, contents.sites)
        case ("set fineness", number):
            return Contents(contents.body, contents.stride, number, contents.crafts, contents.sites)
        case ("add craft", craft):
            return _add_craft(contents, craft)
        case ("drop craft", name):
            return _drop_craft(contents, name)
        case ("set drift", name, number):
            return _set_drift(contents, name, number)
        case ("add burn", name, burn):
            return _add_burn(contents, name, burn)
        case ("drop burn", name, begin):
            return _drop_burn(contents, name, begin)
        case ("add sighting", name, sighting):
            return _add_sighting(contents, name, sighting)
        case ("drop sighting", name, at):
            return _drop_sighting(contents, name, at)
        case ("add site", site):
            return _add_site(contents, site)
        case ("drop site", name):
            return _drop_site(contents, name)
        case _:
            raise BadArgument("edit")


def _with_crafts(contents, crafts):
    """The contents with other crafts, in the order of their names."""
    ordered = sorted(crafts, key=lambda craft: craft.name)
    return Contents(contents.body, contents.stride, contents.fineness, ordered, contents.sites)


def _with_sites(contents, sites):
    """The contents with other sites, in the order of their names."""
    ordered = sorted(sites, key=lambda site: site.name)
    return Contents(contents.body, contents.stride, contents.fineness, contents.crafts, ordered)


def _with_craft(contents, craft):
    """The contents with this craft in place of the one of its name, if there is one."""
    others = [other for other in contents.crafts if other.name != craft.name]
    return _with_crafts(contents, others + [craft])


def _with_burns(craft, burns):
    """The craft with other burns, in the order of their begins."""
    ordered = sorted(burns, key=lambda burn: burn.begin)
    return Craft(craft.name, craft.start, craft.place, craft.speed, craft.drift, ordered, craft.sightings)


def _with_sightings(craft, sightings):
    """The craft with other sightings, in the order of their ticks."""
    ordered = sorted(sightings, key=lambda sighting: sighting.at)
    return Craft(craft.name, craft.start, craft.place, craft.speed, craft.drift, craft.burns, ordered)


def _add_craft(contents, craft):
    names = [other.name for other in contents.crafts]
    if len(names) >= MOST_CRAFTS and craft.name not in names:
        raise TooMany("there is no room for another craft")
    return _with_craft(contents, Craft(craft.name, craft.start, craft.place, craft.speed, craft.drift))


def _drop_craft(contents, name):
    dropped = craft_of(contents, name)
    return _with_crafts(contents, [craft for craft in contents.crafts if craft.name != dropped.name])


def _set_drift(contents, name, number):
    craft = craft_of(contents, name)
    drifting = Craft(name, craft.start, craft.place, craft.speed, number, craft.burns, craft.sightings)
    return _with_craft(contents, drifting)


def _add_burn(contents, name, burn):
    craft = craft_of(contents, name)
    if burn.begin < craft.start:
        raise BeforeStart("a burn begins before the start of its craft")
    others = [other for other in craft.burns if other.begin != burn.begin]
    for other in others:
        if other.begin < burn.end and burn.begin < other.end:
            raise BurnsOverlap("another burn acts at the same tick")
    if len(craft.burns) >= MOST_BURNS and len(others) == len(craft.burns):
        raise TooMany("there is no room for another burn")
    return _with_craft(contents, _with_burns(craft, others + [burn]))


def _drop_burn(contents, name, begin):
    craft = craft_of(contents, name)
    others = [burn for burn in craft.burns if burn.begin != begin]
    if len(others) == len(craft.burns):
        raise NoSuchBurn("no burn has this begin")
    return _with_craft(contents, _with_burns(craft, others))


def _add_sighting(contents, name, sighting):
    craft = craft_of(contents, name)
    if sighting.at < craft.start:
        raise BeforeStart("a sighting lies before the start of its craft")
    others = [other for other in craft.sightings if other.at != sighting.at]
    if len(craft.sightings) >= MOST_SIGHTINGS and len(others) == len(craft.sightings):
        raise TooMany("there is no room for another sighting")
    return _with_craft(contents, _with_sightings(craft, others + [sighting]))


def _drop_sighting(contents, name, at):
    craft = craft_of(contents, name)
    others = [sighting for sighting in craft.sightings if sighting.at != at]
    if len(others) == len(craft.sightings):
        raise NoSuchSighting("no sighting has this tick")
    return _with_craft(contents, _with_sightings(craft, others))


def _add_site(contents, site):
    others = [other for other in contents.sites if other.name != site.name]
    if len(contents.sites) >= MOST_SITES and len(others) == len(contents.sites):
        raise TooMany("there is no room for another site")
    return _with_sites(contents, others + [site])


def _drop_site(contents, name):
    dropped = site_of(contents, name)
    return _with_sites(contents, [site for site in contents.sites if site.name != dropped.name])
