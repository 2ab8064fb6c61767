"""The ways from place to place: how many there are, and each by its number."""

from enoughchecks.basics import arrows_from, need_place, onward_order, whole_below
from enoughchecks.errors import NoNumber, TooMany
from enoughchecks.webs import ends

MOST_WAYS = 1500


def counts_to(web, v):
    """List, for each place, how many ways lead from it to v, and 1 for v itself."""
    rows = arrows_from(web.places, web.arrows)
    counts = [0] * web.places
    counts[v] = 1
    for place in reversed(onward_order(web.places, web.arrows)):
        if place != v:
            counts[place] = sum([counts[web.arrows[arrow][1]] for arrow in rows[place]])
    return counts


def ways_many(web, u, v):
    """Tell how many ways lead from u to v."""
    need_place(web, u)
    need_place(web, v)
    if u == v:
        return 0
    return counts_to(web, v)[u]


def ways(web, u, v):
    """List the ways from u to v, ascending."""
    if ways_many(web, u, v) > MOST_WAYS:
        raise TooMany(MOST_WAYS)
    found = []
    if u == v:
        return found
    counts = counts_to(web, v)
    rows = arrows_from(web.places, web.arrows)
    begun = [((), u)]
    # The last one begun goes on first, so the least arrow is put there last.
    while begun:
        way, place = begun.pop()
        if place == v:
            found.append(way)
        for arrow in reversed(rows[place]):
            end = web.arrows[arrow][1]
            if counts[end] > 0:
                begun.append(((*way, arrow), end))
    return found


def way_at(web, u, v, number):
    """Tell the way from u to v that has this index in the ascending list of them."""
    if not whole_below(number, ways_many(web, u, v)):
        raise NoNumber()
    counts = counts_to(web, v)
    rows = arrows_from(web.places, web.arrows)
    way = []
    place = u
    left = number
    while place != v:
        for arrow in rows[place]:
            end = web.arrows[arrow][1]
            if left < counts[end]:
                break
            left -= counts[end]
        way.append(arrow)
        place = end
    return tuple(way)


def way_number(web, way):
    """Tell the index of a way in the ascending list of the ways with its ends."""
    _, v = ends(web, way)
    counts = counts_to(web, v)
    rows = arrows_from(web.places, web.arrows)
    number = 0
    for arrow in way:
        lesser = [other for other in rows[web.arrows[arrow][0]] if other < arrow]
        number += sum([counts[web.arrows[other][1]] for other in lesser])
    return number


def ways_in_all(web):
    """Tell how many ways the whole web has."""
    rows = arrows_from(web.places, web.arrows)
    counts = [0] * web.places
    for place in reversed(onward_order(web.places, web.arrows)):
        counts[place] = sum([counts[web.arrows[arrow][1]] + 1 for arrow in rows[place]])
    return sum(counts)


def every_way(web):
    """List, ascending, all ways of the whole web, however many there are."""
    rows = arrows_from(web.places, web.arrows)
    found = [(arrow,) for arrow in range(len(web.arrows))]
    done = 0
    while done < len(found):
        way = found[done]
        found.extend([(*way, arrow) for arrow in rows[web.arrows[way[-1]][1]]])
        done += 1
    return sorted(found)
