"""Webs made out of other webs."""

from enoughchecks.basics import need_arrow, need_place, whole_below
from enoughchecks.errors import NoArrow, NoNumber, NoOrder
from enoughchecks.webs import Web, reached, web_of_any_size

MOST_CUBE = 6


def mirrored(web):
    """Make the web in which each arrow leads from its end to its begin."""
    return web_of_any_size(web.places, tuple([(end, begin) for begin, end in web.arrows]))


def _is_order(web, thing):
    """Tell whether a thing is a tuple of all places of the web, each once."""
    if not isinstance(thing, tuple):
        return False
    # Only integers are sure to be sorted without an error.
    if not all([whole_below(item, web.places) for item in thing]):
        return False
    return sorted(thing) == list(range(web.places))


def numbered(web, order):
    """Make the web in which place k has the number order[k]."""
    if not _is_order(web, order):
        raise NoOrder()
    return web_of_any_size(web.places, tuple([(order[begin], order[end]) for begin, end in web.arrows]))


def with_arrow(web, u, v):
    """Make the web with one arrow more, from u to v, the last one."""
    need_place(web, u)
    need_place(web, v)
    # A place reaches itself, so this also bars an arrow that begins where it ends.
    if u in reached(web, v):
        raise NoArrow()
    return web_of_any_size(web.places, (*web.arrows, (u, v)))


def without_arrow(web, arrow):
    """Make the web without an arrow; those above it are one less."""
    need_arrow(web, arrow)
    return web_of_any_size(web.places, web.arrows[:arrow] + web.arrows[arrow + 1:])


def beside(web, other_web):
    """Make the web of both webs, the places and arrows of the other one numbered on."""
    shifted = [(begin + web.places, end + web.places) for begin, end in other_web.arrows]
    return web_of_any_size(web.places + other_web.places, (*web.arrows, *shifted))


def floor(web, other_web):
    """Make the web with a place for each pair of places, in which an arrow of either web moves its part alone."""
    size = other_web.places
    arrows = []
    for u, v in web.arrows:
        arrows.extend([(u * size + q, v * size + q) for q in range(size)])
    for p in range(web.places):
        arrows.extend([(p * size + u, p * size + v) for u, v in other_web.arrows])
    return web_of_any_size(web.places * size, tuple(arrows))


def cube(n):
    """Make the cube of n directions, the floor of a lesser cube and one arrow, again and again."""
    if not whole_below(n, MOST_CUBE + 1):
        raise NoNumber()
    web = Web(1, ())
    for _ in range(n):
        web = floor(web, Web(2, ((0, 1),)))
    return web
