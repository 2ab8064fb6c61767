"""Webs, their ways, and which places reach which."""

from enoughchecks.basics import need_place, onward_order, spread, whole_below
from enoughchecks.errors import BadWeb, NoPair, NoWay

MOST_PLACES = 60
MOST_ARROWS = 400


class Web:
    """Places, and arrows between them, none in rings."""

    def __init__(self, places, arrows):
        if not whole_below(places, MOST_PLACES + 1) or places == 0:
            raise BadWeb("places", -1)
        if not isinstance(arrows, tuple) or len(arrows) > MOST_ARROWS:
            raise BadWeb("arrows", -1)
        for at, item in enumerate(arrows):
            if not _is_arrow(places, item):
                raise BadWeb("arrows", at)
        if len(onward_order(places, arrows)) < places:
            raise BadWeb("ring", -1)
        self.places = places
        self.arrows = arrows

    def __eq__(self, other):
        return isinstance(other, Web) and self.places == other.places and self.arrows == other.arrows


def _is_arrow(places, thing):
    """Tell whether a thing is a pair of unlike places."""
    if not isinstance(thing, tuple) or len(thing) != 2:
        return False
    begin, end = thing
    return whole_below(begin, places) and whole_below(end, places) and begin != end


def web_of_any_size(places, arrows):
    """Make a web out of what surely makes one, as large as it may be."""
    # The bounds hold only where a caller constructs a web, so they are gone round here.
    web = Web(1, ())
    web.places = places
    web.arrows = arrows
    return web


def is_way(web, thing):
    """Tell whether a thing is a way of the web."""
    if not isinstance(thing, tuple) or len(thing) == 0:
        return False
    if not all([whole_below(arrow, len(web.arrows)) for arrow in thing]):
        return False
    return all([web.arrows[arrow][1] == web.arrows[after][0] for arrow, after in zip(thing, thing[1:])])


def ends(web, way):
    """Tell the pair of the begin and the end of a way."""
    if not is_way(web, way):
        raise NoWay()
    return (web.arrows[way[0]][0], web.arrows[way[-1]][1])


def common_ends(web, one, other):
    """Tell the pair of the begin and the end of two ways, or raise NoPair if they have other ones."""
    pair = ends(web, one)
    if ends(web, other) != pair:
        raise NoPair()
    return pair


def passed(web, way):
    """Tell the tuple of all places that a way passes, in order, both ends too."""
    begin, _ = ends(web, way)
    return (begin, *[web.arrows[arrow][1] for arrow in way])


def reached(web, place):
    """Tell the lot of the places that a place reaches, itself too."""
    need_place(web, place)
    return spread(web.places, web.arrows, place)


def reaching(web, place):
    """Tell the lot of the places that reach a place, itself too."""
    need_place(web, place)
    return spread(web.places, [(end, begin) for begin, end in web.arrows], place)


def between(web, u, v):
    """Tell the lot of the places, neither u nor v, that u reaches and that reach v."""
    behind = reached(web, u)
    ahead = set(reaching(web, v))
    return tuple([place for place in behind if place in ahead and place not in (u, v)])
