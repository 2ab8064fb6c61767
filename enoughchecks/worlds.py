"""Worlds: things at the places, led along the arrows; which ways agree there."""

from enoughchecks.basics import arrows_from, is_whole, need_place, onward_order, whole_below
from enoughchecks.checking import is_check, need_checks
from enoughchecks.errors import NoThing, NoWorld
from enoughchecks.webs import common_ends, ends

# Stands in the place of the one thing where there are unlike ones.
SEVERAL = "several"


def is_world(web, thing):
    """Tell whether a thing is a pair (sizes, tables) that makes a world of the web."""
    if not isinstance(thing, tuple) or len(thing) != 2:
        return False
    sizes, tables = thing
    if not _are_sizes(web, sizes):
        return False
    if not isinstance(tables, tuple) or len(tables) != len(web.arrows):
        return False
    return all([is_table(sizes, pair, table) for pair, table in zip(web.arrows, tables)])


def _are_sizes(web, thing):
    """Tell whether a thing is a tuple with an integer from 0 on for each place."""
    if not isinstance(thing, tuple) or len(thing) != web.places:
        return False
    return all([is_whole(item) for item in thing])


def is_table(sizes, pair, thing):
    """Tell whether a thing is a tuple with, for each thing of the begin of a pair, one of the end."""
    begin, end = pair
    if not isinstance(thing, tuple) or len(thing) != sizes[begin]:
        return False
    return all([whole_below(item, sizes[end]) for item in thing])


def need_world(web, thing):
    """Raise NoWorld unless the thing is a world of the web."""
    if not is_world(web, thing):
        raise NoWorld()


def led(web, world, way, thing):
    """Tell the thing to which a way leads a thing of its begin."""
    need_world(web, world)
    begin, _ = ends(web, way)
    sizes, tables = world
    if not whole_below(thing, sizes[begin]):
        raise NoThing()
    found = thing
    for arrow in way:
        found = tables[arrow][found]
    return found


def way_table(world, way):
    """List, for each thing of the begin of a way, the thing to which the way leads it."""
    _, tables = world
    row = list(tables[way[0]])
    for arrow in way[1:]:
        row = [tables[arrow][thing] for thing in row]
    return row


def parted_thing(web, world, one, other):
    """Tell the least thing that two ways with the same ends lead to unlike ones, or None."""
    need_world(web, world)
    common_ends(web, one, other)
    for thing, (here, there) in enumerate(zip(way_table(world, one), way_table(world, other))):
        if here != there:
            return thing
    return None


def agree(world, one, other):
    """Tell whether two ways with the same ends lead each thing to the same."""
    return way_table(world, one) == way_table(world, other)


def passes_all(world, checks):
    """Tell whether the ways of each of the checks agree in the world."""
    return all([agree(world, one, other) for one, other in checks])


def not_passed(world, checks):
    """Tell the lot of the checks that the world does not pass."""
    return tuple([index for index, (one, other) in enumerate(checks) if not agree(world, one, other)])


def failed(web, world, checks):
    """Tell the lot of the checks whose ways do not agree in the world."""
    need_world(web, world)
    need_checks(web, checks)
    return not_passed(world, checks)


def _one_of(things):
    """Tell the thing that all of the things are, or SEVERAL."""
    if all([thing == things[0] for thing in things]):
        return things[0]
    return SEVERAL


def _landings_over(web, world, v, landings, arrow):
    """List where each thing of the begin of an arrow lands at v if led over the arrow, or tell None if no way leads."""
    _, tables = world
    end = web.arrows[arrow][1]
    if end == v:
        return list(tables[arrow])
    if landings[end] is None:
        return None
    return [landings[end][thing] for thing in tables[arrow]]


def _landings(web, world, v):
    """List, for each place, where each of its things lands at v by all ways: at one thing or at SEVERAL.

    None stands for a place from which no way leads to v.
    """
    rows = arrows_from(web.places, web.arrows)
    landings = [None] * web.places
    for place in reversed(onward_order(web.places, web.arrows)):
        over = [_landings_over(web, world, v, landings, arrow) for arrow in rows[place]]
        found = [row for row in over if row is not None]
        if found:
            landings[place] = [_one_of(things) for things in zip(*found)]
    return landings


def parted_pairs(web, world):
    """List, ascending, the pairs (u, v) between which some two ways disagree."""
    need_world(web, world)
    found = []
    for v in range(web.places):
        for u, row in enumerate(_landings(web, world, v)):
            if row is not None and SEVERAL in row:
                found.append((u, v))
    return sorted(found)


def _way_to_each(web, world, u, v, thing):
    """List, for each thing of v to which ways from u lead a thing, one of these ways."""
    _, tables = world
    rows = arrows_from(web.places, web.arrows)
    begun = {(u, thing): ()}
    waiting = [(u, thing)]
    while waiting:
        place, here = waiting.pop()
        for arrow in rows[place]:
            there = (web.arrows[arrow][1], tables[arrow][here])
            if there not in begun:
                begun[there] = (*begun[(place, here)], arrow)
                waiting.append(there)
    return [way for (place, _), way in begun.items() if place == v]


def parted_ways(web, world, u, v):
    """Tell a pair of two ways from u to v that disagree, the lesser first, or None."""
    need_world(web, world)
    need_place(web, u)
    need_place(web, v)
    row = _landings(web, world, v)[u]
    if row is None or SEVERAL not in row:
        return None
    # Ways to unlike things disagree, so any two of them will do.
    found = sorted(_way_to_each(web, world, u, v, row.index(SEVERAL)))
    return (found[0], found[1])


def is_parted_ways(web, world, u, v, thing):
    """Tell whether a thing is a pair of two ways from u to v that disagree, the lesser first."""
    need_world(web, world)
    need_place(web, u)
    need_place(web, v)
    if not is_check(web, thing):
        return False
    one, other = thing
    return ends(web, one) == (u, v) and not agree(world, one, other)
