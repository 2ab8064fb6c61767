"""Exchanges of one side of a check for the other one, and which ways come from one another by chains of them."""

from enoughchecks.basics import is_whole, whole_below
from enoughchecks.checking import need_checks
from enoughchecks.errors import NoExchange, NoWay, TooMany
from enoughchecks.ways import MOST_WAYS, ways, ways_many
from enoughchecks.webs import common_ends, is_way


def _is_exchange(checks, thing):
    """Tell whether a thing is a triple (check, at, back) of one of the checks, an index and a flag."""
    if not isinstance(thing, tuple) or len(thing) != 3:
        return False
    check, at, back = thing
    return whole_below(check, len(checks)) and is_whole(at) and isinstance(back, bool)


def _behind(checks, way, thing):
    """Tell the way behind an exchange in a way, or None if the thing is none in it."""
    if not _is_exchange(checks, thing):
        return None
    check, at, back = thing
    one, other = checks[check]
    old, new = (other, one) if back else (one, other)
    if way[at:at + len(old)] != old:
        return None
    return (*way[:at], *new, *way[at + len(old):])


def exchanged(web, checks, way, thing):
    """Tell the way behind an exchange in a way."""
    need_checks(web, checks)
    if not is_way(web, way):
        raise NoWay()
    found = _behind(checks, way, thing)
    if found is None:
        raise NoExchange()
    return found


def _swaps(checks):
    """Tell the dict from each arrow to a dict from each side of a check that it begins to triples (check, back, new).

    Within this, the sides stand in a dict by their length, so that few of them have to be looked for.
    """
    found = {}
    for check, (one, other) in enumerate(checks):
        for back, old, new in ((False, one, other), (True, other, one)):
            lengths = found.setdefault(old[0], {})
            sides = lengths.setdefault(len(old), {})
            sides.setdefault(old, []).append((check, back, new))
    return found


def _steps(swaps, way):
    """List the pairs (exchange, way behind it) of all exchanges in a way."""
    found = []
    for at, arrow in enumerate(way):
        for length, sides in swaps.get(arrow, {}).items():
            for check, back, new in sides.get(way[at:at + length], ()):
                found.append(((check, at, back), (*way[:at], *new, *way[at + length:])))
    return found


def _come_to(swaps, start):
    """Tell the dict from each way to which chains lead from the start to the pair (exchange, way ahead of it).

    The start itself has None; by the ways ahead the shortest chains are found.
    """
    found = {start: None}
    waiting = [start]
    done = 0
    while done < len(waiting):
        way = waiting[done]
        for exchange, behind in _steps(swaps, way):
            if behind not in found:
                found[behind] = (exchange, way)
                waiting.append(behind)
        done += 1
    return found


def _need_few(web, pair):
    """Raise TooMany if more ways than may be tried lead from the one place of a pair to the other."""
    u, v = pair
    if ways_many(web, u, v) > MOST_WAYS:
        raise TooMany(MOST_WAYS)


def chain(web, checks, one, other):
    """Tell a chain of exchanges, as short as any, that leads from a way to another one, or None."""
    need_checks(web, checks)
    _need_few(web, common_ends(web, one, other))
    ahead = _come_to(_swaps(checks), one)
    if other not in ahead:
        return None
    found = []
    way = other
    while way != one:
        exchange, way = ahead[way]
        found.append(exchange)
    return tuple(found[::-1])


def follows(web, checks, one, other):
    """Tell whether two ways agree in every world that passes all checks."""
    return chain(web, checks, one, other) is not None


def is_chain(web, checks, one, other, thing):
    """Tell whether a thing is a chain, short or long, that leads from a way to another one."""
    need_checks(web, checks)
    common_ends(web, one, other)
    if not isinstance(thing, tuple):
        return False
    way = one
    for exchange in thing:
        way = _behind(checks, way, exchange)
        if way is None:
            return False
    return way == other


def classes_among(checks, told):
    """List, ascending, the ascending tuples of ways that chains lead to one another, out of told ascending ways.

    The told ways are all that have the same ends as one of them.
    """
    swaps = _swaps(checks)
    placed = set()
    found = []
    for way in told:
        if way not in placed:
            lot = tuple(sorted(_come_to(swaps, way)))
            found.append(lot)
            for other in lot:
                placed.add(other)
    return found


def classes(web, checks, u, v):
    """List, ascending, the ascending tuples of the ways from u to v that follow from one another."""
    need_checks(web, checks)
    return classes_among(checks, ways(web, u, v))
