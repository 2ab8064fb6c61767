"""Which one arrow can have been spoiled if just told checks fail, and which check tells most of it."""

from enoughchecks.basics import is_lot, need_arrow, whole_below
from enoughchecks.checking import need_checks
from enoughchecks.errors import NoChecks, NoFailed
from enoughchecks.leasts import least_list
from enoughchecks.webs import ends, reached, reaching
from enoughchecks.worlds import is_table, is_world, not_passed, passes_all


def _need_failed(web, checks, thing):
    """Raise NoChecks or NoFailed unless the things are checks of the web and a lot of them."""
    need_checks(web, checks)
    if not is_lot(thing, len(checks)):
        raise NoFailed()


def _once(check):
    """Tell the lot of the arrows that just one way of a check has."""
    one, other = check
    return tuple(sorted(set(one) ^ set(other)))


def _span(web, u, v):
    """Tell the lot of the places that u reaches and that reach v, both of them too."""
    ahead = set(reaching(web, v))
    return tuple([place for place in reached(web, u) if place in ahead])


def _within(web, pairs, failed, i):
    """List the checks that are passed and both ends of which lie between those of a failed check, or are these."""
    u, v = pairs[i]
    span = set(_span(web, u, v))
    return [j for j, (begin, end) in enumerate(pairs) if j not in failed and begin in span and end in span]


def _facts(web, checks, failed):
    """Tell the pair (once, nests) of what bars lean on.

    once has, for each check, the lot of the arrows that just one way of it has; nests are the pairs (i, j) of a failed
    check and one that is passed and lies within it.
    """
    pairs = [ends(web, one) for one, _ in checks]
    nests = [(i, j) for i in failed for j in _within(web, pairs, failed, i)]
    return ([_once(check) for check in checks], nests)


def _bar(facts, failed, arrow):
    """Tell a bar against an arrow, or None."""
    once, nests = facts
    for i in failed:
        if arrow not in once[i]:
            return ("beside", i)
    for i, j in nests:
        if arrow in once[j]:
            return ("within", i, j)
    return None


def _left(web, checks, failed):
    """Tell the lot of the arrows against which there is no bar."""
    facts = _facts(web, checks, failed)
    return tuple([arrow for arrow in range(len(web.arrows)) if _bar(facts, failed, arrow) is None])


def suspects(web, checks, failed):
    """Tell the lot of the arrows of which one can have been spoiled if just these checks fail."""
    _need_failed(web, checks, failed)
    return _left(web, checks, failed)


def bar(web, checks, failed, arrow):
    """Tell a bar against an arrow, or None."""
    _need_failed(web, checks, failed)
    need_arrow(web, arrow)
    return _bar(_facts(web, checks, failed), failed, arrow)


def is_bar(web, checks, failed, arrow, thing):
    """Tell whether a thing is a bar against an arrow."""
    _need_failed(web, checks, failed)
    need_arrow(web, arrow)
    if not isinstance(thing, tuple) or len(thing) < 2 or not isinstance(thing[0], str):
        return False
    word, *rest = thing
    if not all([whole_below(item, len(checks)) for item in rest]) or rest[0] not in failed:
        return False
    once, nests = _facts(web, checks, failed)
    if word == "beside":
        return len(rest) == 1 and arrow not in once[rest[0]]
    return word == "within" and tuple(rest) in nests and arrow in once[rest[1]]


def _things(web, pairs, arrow):
    """List, for each place, its things as (word, number): a base, and some for each of the pairs.

    The pairs are the ends of ways that go over the arrow. Each of them has one thing more at the places from its begin
    to that of the arrow, and at those from the end of the arrow to its own one.
    """
    begin, end = web.arrows[arrow]
    things = [[("base", 0)] for _ in range(web.places)]
    for number, (u, v) in enumerate(pairs):
        for place in _span(web, u, begin):
            things[place].append(("ahead", number))
        for place in _span(web, end, v):
            things[place].append(("behind", number))
    return things


def spoiled(web, checks, failed, arrow):
    """Tell a pair (world, table) of a world in which all ways agree and a table for the arrow that spoils it, or None.

    With this table in the place of the arrow's own just the failed checks are not passed.
    """
    if bar(web, checks, failed, arrow) is not None:
        return None
    pairs = sorted(set([ends(web, checks[check][0]) for check in failed]))
    things = _things(web, pairs, arrow)
    at = [{thing: number for number, thing in enumerate(row)} for row in things]
    # A thing stays what it is as long as there is such a thing; behind that it is the base.
    tables = [tuple([at[end].get(thing, 0) for thing in things[begin]]) for begin, end in web.arrows]
    # Both places of the arrow have a thing for each pair. The table in the place of the arrow's own leads each of the
    # one to that of the other, so that it can be told from the base between the ends of the pair, and there alone.
    return ((tuple([len(row) for row in things]), tuple(tables)), tuple(range(len(pairs) + 1)))


def is_spoiled(web, checks, failed, arrow, thing):
    """Tell whether a thing is a pair (world, table) such as spoiled tells."""
    _need_failed(web, checks, failed)
    need_arrow(web, arrow)
    if not isinstance(thing, tuple) or len(thing) != 2:
        return False
    world, table = thing
    # A world that passes checks that are enough is one in which all ways agree.
    if not is_world(web, world) or not passes_all(world, least_list(web)):
        return False
    sizes, tables = world
    if not is_table(sizes, web.arrows[arrow], table):
        return False
    return not_passed((sizes, (*tables[:arrow], table, *tables[arrow + 1:])), checks) == failed


def unseen(web, checks):
    """Tell the lot of the arrows that just one way of no check has."""
    need_checks(web, checks)
    seen = set([arrow for check in checks for arrow in _once(check)])
    return tuple([arrow for arrow in range(len(web.arrows)) if arrow not in seen])


def never_seen(web):
    """Tell the lot of the arrows that just one way of no check of the whole web has."""
    # Checks that are enough see what any check sees: only so do all others follow from them by exchanges.
    return unseen(web, least_list(web))


def next_check(web, checks, failed, stock):
    """Tell the pair (number, left) of the check of a stock that leaves the fewest suspects at worst, or None.

    left is how many these are.
    """
    _need_failed(web, checks, failed)
    if not isinstance(stock, (list, tuple)):
        raise NoChecks()
    need_checks(web, [*checks, *stock])
    found = []
    for number, check in enumerate(stock):
        longer = [*checks, check]
        if_passed = len(_left(web, longer, failed))
        if_failed = len(_left(web, longer, (*failed, len(checks))))
        found.append((max(if_passed, if_failed), number))
    if not found:
        return None
    left, number = min(found)
    return (number, left)
