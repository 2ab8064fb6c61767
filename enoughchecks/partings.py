"""Worlds in which told arrows are one-to-one or onto, and that part two ways."""

from enoughchecks.errors import TooMany
from enoughchecks.papers import closing, need_told
from enoughchecks.webs import common_ends, ends
from enoughchecks.wholes import world_of_ways
from enoughchecks.worlds import agree, is_world, passes_all

MOST_APART = 10


def _standing(web, homes, v):
    """List, for each place, the ways to v that stand for all others, and for v the way without arrows."""
    found = [[] for _ in range(web.places)]
    found[v].append(())
    for way, home in homes.items():
        begin, end = ends(web, way)
        if way == home and end == v:
            found[begin].append(way)
    return found


def _world_of_lots(web, homes, standing):
    """Make the world whose things are all lots of the ways that stand for others, as integers with a bit for each way.

    An arrow leads a lot to that of the ways with which, the arrow ahead of them, ways of the lot surely follow.
    """
    tables = []
    for arrow, (begin, end) in enumerate(web.arrows):
        longer = [(arrow, *way) for way in standing[end]]
        at = [standing[begin].index(homes[way]) for way in longer]
        table = []
        for lot in range(1 << len(standing[begin])):
            table.append(sum([(lot >> bit & 1) << number for number, bit in enumerate(at)]))
        tables.append(tuple(table))
    return (tuple([1 << len(row) for row in standing]), tuple(tables))


def parting(web, checks, sort, told, one, other):
    """Tell a world that passes all checks, in which told arrows are of the sort and both ways disagree, or None."""
    need_told(web, checks, sort, told)
    u, v = common_ends(web, one, other)
    homes, _ = closing(web, checks, sort, told)
    standing = _standing(web, homes, v)
    if sort == "onto" and max([len(row) for row in standing]) > MOST_APART:
        raise TooMany(MOST_APART)
    if homes[one] == homes[other]:
        return None
    if sort == "onto":
        return _world_of_lots(web, homes, standing)
    return world_of_ways(web, (u,), {way: home for way, home in homes.items() if ends(web, way)[0] == u})


def _is_of_sort(sort, size, table):
    """Tell whether a table to so many things is one-to-one or onto, as the sort asks."""
    wanted = len(table) if sort == "one" else size
    return len(set(table)) == wanted


def is_parting(web, checks, sort, told, one, other, thing):
    """Tell whether a thing is a world such as parting tells."""
    need_told(web, checks, sort, told)
    common_ends(web, one, other)
    if not is_world(web, thing) or not passes_all(thing, checks):
        return False
    sizes, tables = thing
    if not all([_is_of_sort(sort, sizes[web.arrows[arrow][1]], tables[arrow]) for arrow in told]):
        return False
    return not agree(thing, one, other)
