"""The differences of two contents: which crafts and sites they touch."""

from orrery.data import body_data
from orrery.data import craft_data


def differences(before, after):
    """The tuple (touched crafts, crafts dropped, touched sites, sites dropped)."""
    return (
        _touched_crafts(before, after),
        _names_of_first_alone(before.crafts, after.crafts),
        _touched_sites(before, after),
        _names_of_first_alone(before.sites, after.sites),
    )


def _names_of_first_alone(first, second):
    kept = [row.name for row in second]
    return [row.name for row in first if row.name not in kept]


def _touched_crafts(before, after):
    others = _settings(before) != _settings(after)
    known = {craft.name: craft for craft in before.crafts}
    touched = []
    for craft in after.crafts:
        earlier = known.get(craft.name)
        tick = craft.start if earlier is None else _touched_from(earlier, craft, others)
        if tick is not None:
            touched.append((craft.name, tick))
    return touched


def _settings(contents):
    """What the courses of all crafts depend on."""
    return (body_data(contents.body), contents.stride, contents.fineness)


def _touched_from(before, after, others):
    """The tick from which on a craft is touched, or None; `others` tells if the settings are others."""
    *old, old_burns, old_sightings = craft_data(before)
    *new, new_burns, new_sightings = craft_data(after)
    if others or old != new:
        return min(before.start, after.start)
    ticks = _first_difference(old_burns, new_burns) + _first_difference(old_sightings, new_sightings)
    return min(ticks, default=None)


def _first_difference(before, after):
    """The list of the tick of the first difference of two lists of burns or sightings, or []."""
    for old, new in zip(before, after):
        if old != new:
            return [min(old[0], new[0])]
    shared = min(len(before), len(after))
    longer = before[shared:] + after[shared:]
    return [row[0] for row in longer[:1]]


def _touched_sites(before, after):
    turned = before.body.turn != after.body.turn
    places = {site.name: site.place for site in before.sites}
    return [site.name for site in after.sites if turned or places.get(site.name) != site.place]
