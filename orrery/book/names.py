"""What contents hold under a name."""

from orrery.errors import NoSuchCraft
from orrery.errors import NoSuchSite


def craft_of(contents, name):
    """The craft of this name."""
    for craft in contents.crafts:
        if craft.name == name:
            return craft
    raise NoSuchCraft(name)


def site_of(contents, name):
    """The site of this name."""
    for site in contents.sites:
        if site.name == name:
            return site
    raise NoSuchSite(name)
