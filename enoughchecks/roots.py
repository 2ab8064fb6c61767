"""Roots, places that reach all others, and as few checks as can be enough where the tree of a root is told."""

from enoughchecks.errors import NoRoot
from enoughchecks.webs import reached


def _least_arrows(web, root):
    """Tell the dict from each place but the root to the least arrow that ends there."""
    if len(reached(web, root)) < web.places:
        raise NoRoot()
    # As there are no rings, no arrow ends at a root.
    found = {}
    for arrow, (_, end) in enumerate(web.arrows):
        found.setdefault(end, arrow)
    return found


def root_tree(web, root):
    """Tell the lot with, for each place but the root, the least arrow that ends there."""
    return tuple(sorted(_least_arrows(web, root).values()))


def _tree_way(web, least, place):
    """Tell the tuple of the arrows that lead along the tree from the root to a place, of none for the root."""
    found = []
    at = place
    while at in least:
        found.append(least[at])
        at = web.arrows[least[at]][0]
    return tuple(found[::-1])


def root_checks(web, root):
    """List, ascending, the checks of the tree with each arrow outside of it."""
    least = _least_arrows(web, root)
    found = []
    for arrow, (begin, end) in enumerate(web.arrows):
        if least[end] != arrow:
            one = (*_tree_way(web, least, begin), arrow)
            other = _tree_way(web, least, end)
            found.append((min(one, other), max(one, other)))
    return sorted(found)
