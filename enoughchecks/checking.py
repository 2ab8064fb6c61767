"""Checks, pairs of ways that are compared, and how many of them there are."""

from enoughchecks.errors import NoChecks
from enoughchecks.ways import counts_to
from enoughchecks.webs import ends, is_way


def is_check(web, thing):
    """Tell whether a thing is a pair of ways with the same ends, the lesser first."""
    if not isinstance(thing, tuple) or len(thing) != 2:
        return False
    one, other = thing
    if not is_way(web, one) or not is_way(web, other):
        return False
    return one < other and ends(web, one) == ends(web, other)


def are_checks(web, thing):
    """Tell whether a thing is a list or tuple of unlike checks, perhaps of none."""
    if not isinstance(thing, (list, tuple)):
        return False
    if not all([is_check(web, item) for item in thing]):
        return False
    return len(set(thing)) == len(thing)


def need_checks(web, thing):
    """Raise NoChecks unless the thing is checks of the web."""
    if not are_checks(web, thing):
        raise NoChecks()


def checks_many(web):
    """Tell how many checks there are."""
    total = 0
    for v in range(web.places):
        total += sum([count * (count - 1) // 2 for count in counts_to(web, v)])
    return total
