"""What several modules need: integers, lots, places and arrows of a web, and what links hold together."""

from enoughchecks.errors import NoArrow, NoPlace


def is_number(thing):
    """Tell whether a thing is an integer."""
    # For Python a flag is an int, for this package it is no integer.
    return isinstance(thing, int) and not isinstance(thing, bool)


def is_whole(thing):
    """Tell whether a thing is an integer from 0 on."""
    return is_number(thing) and thing >= 0


def whole_below(thing, limit):
    """Tell whether a thing is an integer from 0 below the limit."""
    return is_whole(thing) and thing < limit


def is_lot(thing, limit):
    """Tell whether a thing is an ascending tuple of integers from 0 below the limit."""
    if not isinstance(thing, tuple):
        return False
    if not all([whole_below(item, limit) for item in thing]):
        return False
    return all([item < after for item, after in zip(thing, thing[1:])])


def need_place(web, thing):
    """Raise NoPlace unless the thing is a place of the web."""
    if not whole_below(thing, web.places):
        raise NoPlace()


def need_arrow(web, thing):
    """Raise NoArrow unless the thing is an arrow of the web."""
    if not whole_below(thing, len(web.arrows)):
        raise NoArrow()


def arrows_from(places, arrows):
    """List, for each place, the ascending list of the arrows that begin there."""
    rows = [[] for _ in range(places)]
    for arrow, (begin, _) in enumerate(arrows):
        rows[begin].append(arrow)
    return rows


def onward_order(places, arrows):
    """List the places so that each arrow leads onward; places on rings, and behind them, are left out."""
    rows = arrows_from(places, arrows)
    waiting = [0] * places
    for _, end in arrows:
        waiting[end] += 1
    order = [place for place in range(places) if waiting[place] == 0]
    done = 0
    while done < len(order):
        place = order[done]
        for arrow in rows[place]:
            end = arrows[arrow][1]
            waiting[end] -= 1
            if waiting[end] == 0:
                order.append(end)
        done += 1
    return order


def _hanging(near, start):
    """Tell the lot of what is come to from the start, itself too, near having a row of neighbours for each."""
    seen = set([start])
    waiting = [start]
    while waiting:
        item = waiting.pop()
        for other in near[item]:
            if other not in seen:
                seen.add(other)
                waiting.append(other)
    return tuple(sorted(seen))


def spread(places, steps, start):
    """Tell the lot of the places to which steps, pairs (from, to), lead from the start, itself too."""
    near = [[] for _ in range(places)]
    for place, other in steps:
        near[place].append(other)
    return _hanging(near, start)


def parts(items, links):
    """List, ascending, the lots into which ascending items fall, held together by links, pairs of them."""
    near = {item: [] for item in items}
    for one, other in links:
        near[one].append(other)
        near[other].append(one)
    placed = set()
    found = []
    for item in items:
        if item not in placed:
            lot = _hanging(near, item)
            found.append(lot)
            for other in lot:
                placed.add(other)
    return found


def joining(many, links):
    """List the indexes of the links, pairs of integers below many, that join what those ahead leave apart."""
    marks = list(range(many))
    found = []
    for at, (one, other) in enumerate(links):
        kept = marks[one]
        gone = marks[other]
        if kept != gone:
            marks = [kept if mark == gone else mark for mark in marks]
            found.append(at)
    return found
