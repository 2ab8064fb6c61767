"""What several modules need: integers, places, and the rows of arrows and places of a web."""

from enoughchecks.errors import NoPlace


def whole_below(thing, limit):
    """Tell whether a thing is an integer from 0 below the limit."""
    # For Python a flag is an int, for this package it is no integer.
    if not isinstance(thing, int) or isinstance(thing, bool):
        return False
    return 0 <= thing < limit


def need_place(web, thing):
    """Raise NoPlace unless the thing is a place of the web."""
    if not whole_below(thing, web.places):
        raise NoPlace()


def arrows_from(places, arrows):
    """List, for each place, the ascending list of the arrows that begin there."""
    rows = [[] for _ in range(places)]
    for arrow, (begin, _) in enumerate(arrows):
        rows[begin].append(arrow)
    return rows


def onward_order(places, arrows):
    """List the places so that each arrow leads onward; places on rings, and behind them, are left out."""
    rows = arrows_from(places, arrows)
    waiting = [0] * places
    for _, end in arrows:
        waiting[end] += 1
    order = [place for place in range(places) if waiting[place] == 0]
    done = 0
    while done < len(order):
        place = order[done]
        for arrow in rows[place]:
            end = arrows[arrow][1]
            waiting[end] -= 1
            if waiting[end] == 0:
                order.append(end)
        done += 1
    return order


def spread(places, steps, start):
    """Tell the lot of the places to which steps, pairs (from, to), lead from the start, itself too."""
    rows = [[] for _ in range(places)]
    for place, other in steps:
        rows[place].append(other)
    seen = [False] * places
    seen[start] = True
    waiting = [start]
    while waiting:
        place = waiting.pop()
        for other in rows[place]:
            if not seen[other]:
                seen[other] = True
                waiting.append(other)
    return tuple([place for place in range(places) if seen[place]])
