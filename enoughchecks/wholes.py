"""Worlds of all, in which just the ways agree that follow from one another, and checks that tell something new."""

from enoughchecks.chains import classes_among
from enoughchecks.checking import need_checks
from enoughchecks.errors import TooMany
from enoughchecks.ways import MOST_WAYS, every_way, ways, ways_in_all
from enoughchecks.webs import ends
from enoughchecks.worlds import is_world, passes_all, way_table


def _need_few(web):
    """Raise TooMany if the whole web has more ways than may be tried."""
    if ways_in_all(web) > MOST_WAYS:
        raise TooMany(MOST_WAYS)


def world_of_ways(web, roots, homes):
    """Make the world whose things are classes of ways from the roots, each led along an arrow to that with it behind.

    homes is a dict from just the ways that begin at a root to one way each that stands for its class; a root has
    one thing more, which stands for the way without arrows.
    """
    things = [[] for _ in range(web.places)]
    for root in roots:
        things[root].append(())
    for way, home in homes.items():
        if way == home:
            things[web.arrows[way[-1]][1]].append(way)
    at = [{thing: number for number, thing in enumerate(row)} for row in things]
    tables = []
    for arrow, (begin, end) in enumerate(web.arrows):
        longer = [(*way, arrow) for way in things[begin]]
        tables.append(tuple([at[end][homes[way]] for way in longer]))
    return (tuple([len(row) for row in things]), tuple(tables))


def _homes(lots):
    """Tell the dict from each way of ascending lots to the least way of its lot."""
    return {way: lot[0] for lot in lots for way in lot}


def world_of_all(web, checks):
    """Tell a world that passes all checks, in which ways with the same ends that do not follow disagree."""
    need_checks(web, checks)
    _need_few(web)
    return world_of_ways(web, tuple(range(web.places)), _homes(classes_among(checks, every_way(web))))


def is_world_of_all(web, checks, thing):
    """Tell whether a thing is a world such as world_of_all tells."""
    need_checks(web, checks)
    _need_few(web)
    if not is_world(web, thing) or not passes_all(thing, checks):
        return False
    # In a world that passes all checks the ways of a class agree, so one way of each is enough to look at.
    firsts = [lot[0] for lot in classes_among(checks, every_way(web))]
    return len(set([(*ends(web, way), tuple(way_table(thing, way))) for way in firsts])) == len(firsts)


def beyond(web, checks, more):
    """Tell the lot of the checks of more that do not follow from the checks."""
    need_checks(web, checks)
    need_checks(web, more)
    pairs = [ends(web, one) for one, _ in more]
    homes = {pair: _homes(classes_among(checks, ways(web, *pair))) for pair in sorted(set(pairs))}
    found = []
    for index, (one, other) in enumerate(more):
        home = homes[pairs[index]]
        if home[one] != home[other]:
            found.append(index)
    return tuple(found)
