"""Roads from least list to least list, on which one check at a time is put in the place of another one."""

from enoughchecks.basics import parts
from enoughchecks.checking import is_check
from enoughchecks.clusters import cluster_among, wide_clusters
from enoughchecks.errors import NoList
from enoughchecks.leasts import is_least
from enoughchecks.webs import ends


def _need_lists(web, one, other):
    """Raise NoList unless both things are least lists."""
    if not is_least(web, one) or not is_least(web, other):
        raise NoList()


def _link(web, told, check):
    """Tell the pair of the clusters, out of those told for its ends, that a check holds together."""
    one, other = check
    return (cluster_among(web, told, one), cluster_among(web, told, other))


def _trees(web, told, checks):
    """Tell the dict from each pair told to a dict from its checks to what they hold together."""
    found = {pair: {} for pair in told}
    for check in checks:
        pair = ends(web, check[0])
        found[pair][check] = _link(web, told[pair], check)
    return found


def _fitting(tree, out, links):
    """List the checks of a dict of links that join what a tree leaves apart without the check that goes out."""
    # A tree has one check fewer than there are clusters.
    left = [link for check, link in tree.items() if check != out]
    lot = set(parts(list(range(len(tree) + 1)), left)[0])
    return [check for check, (here, there) in links.items() if (here in lot) != (there in lot)]


def _change(tree, out, put, link):
    """Take one check out of a tree and put another one in."""
    del tree[out]
    tree[put] = link


def road(web, one, other):
    """Tell a road of as few pairs as any from a least list to another one."""
    _need_lists(web, one, other)
    told = wide_clusters(web)
    trees = _trees(web, told, one)
    goals = _trees(web, told, other)
    found = []
    for out in one:
        pair = ends(web, out[0])
        if out not in goals[pair]:
            # What fits is not in the tree, where the check that goes out was the only one to join both lots.
            put = _fitting(trees[pair], out, goals[pair])[0]
            _change(trees[pair], out, put, goals[pair][put])
            found.append((out, put))
    return tuple(found)


def _is_step(web, told, trees, thing):
    """Tell whether a thing is a pair (out, in) behind which the trees still are trees."""
    if not isinstance(thing, tuple) or len(thing) != 2:
        return False
    out, put = thing
    if not is_check(web, out) or not is_check(web, put):
        return False
    pair = ends(web, out[0])
    if ends(web, put[0]) != pair or pair not in told:
        return False
    tree = trees[pair]
    if out not in tree or put in tree:
        return False
    return len(_fitting(tree, out, {put: _link(web, told[pair], put)})) > 0


def is_road(web, one, other, thing):
    """Tell whether a thing is a road, short or long, from a least list to another one."""
    _need_lists(web, one, other)
    if not isinstance(thing, tuple):
        return False
    told = wide_clusters(web)
    trees = _trees(web, told, one)
    for step in thing:
        if not _is_step(web, told, trees, step):
            return False
        out, put = step
        pair = ends(web, out[0])
        _change(trees[pair], out, put, _link(web, told[pair], put))
    return tuple(sorted([check for tree in trees.values() for check in tree])) == other
