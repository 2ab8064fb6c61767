"""Which checks are enough: told by trees, by small worlds, and by what is lacking or spare."""

from enoughchecks.basics import is_lot, joining
from enoughchecks.checking import are_checks, need_checks
from enoughchecks.clusters import check_links, cluster_of, groups, groups_by, holes, way_within, wide_clusters
from enoughchecks.clusters import wide_groups
from enoughchecks.errors import NotEnough
from enoughchecks.ways import way_at
from enoughchecks.webs import reached
from enoughchecks.worlds import is_world, parted_pairs, passes_all


def enough(web, checks):
    """Tell whether any two ways with the same ends agree in every world that passes all checks."""
    return len(holes(web, checks)) == 0


def _tree(told, links):
    """Tell the lot of the checks each of which holds together clusters that those ahead of it leave apart."""
    found = joining(len(told), [(one, other) for _, one, other in links])
    return tuple([links[at][0] for at in found])


def trees(web, checks):
    """Tell a dict from each pair with two clusters or more to checks that just hold them together, or None."""
    need_checks(web, checks)
    told = wide_clusters(web)
    links = check_links(web, checks, told)
    found = {pair: _tree(told[pair], links[pair]) for pair in told}
    if any([len(found[pair]) < len(told[pair]) - 1 for pair in told]):
        return None
    return found


def _is_tree(many, told, links, thing):
    """Tell whether a thing is a lot of checks among the links, one fewer than the clusters told, that holds them."""
    if not is_lot(thing, many) or len(thing) != len(told) - 1:
        return False
    # Of links that are one fewer than the clusters, all are needed, so a tree out of them is all of them.
    return _tree(told, [link for link in links if link[0] in thing]) == thing


def is_trees(web, checks, thing):
    """Tell whether a thing is a dict such as trees tells."""
    need_checks(web, checks)
    told = wide_clusters(web)
    if not isinstance(thing, dict) or len(thing) != len(told):
        return False
    if not all([pair in thing for pair in told]):
        return False
    links = check_links(web, checks, told)
    return all([_is_tree(len(checks), told[pair], links[pair], thing[pair]) for pair in told])


def _small_sizes(web, u, v):
    """List how many things the places have: v two, others that u reaches one, and those that it does not reach none."""
    sizes = [0] * web.places
    for place in reached(web, u):
        sizes[place] = 1
    sizes[v] = 2
    return sizes


def _last_table(web, u, v, kept, arrow):
    """Tell the table of an arrow to v behind u: to thing 0 if it ends ways of the clusters kept, to 1 if others."""
    begin, _ = web.arrows[arrow]
    way = (arrow,) if begin == u else (*way_at(web, u, begin, 0), arrow)
    return (0,) if cluster_of(web, way) in kept else (1,)


def small_world(web, checks):
    """Tell a small world, one that passes all checks but parts ways by the things of one place alone, or None."""
    found = holes(web, checks)
    if len(found) == 0:
        return None
    u, v = found[0]
    kept = groups(web, checks, u, v)[0]
    sizes = _small_sizes(web, u, v)
    tables = [(0,) * sizes[begin] for begin, _ in web.arrows]
    for arrow, (begin, end) in enumerate(web.arrows):
        if end == v and sizes[begin] > 0:
            tables[arrow] = _last_table(web, u, v, kept, arrow)
    return (tuple(sizes), tuple(tables))


def is_small_world(web, checks, thing):
    """Tell whether a thing is a world such as small_world tells."""
    need_checks(web, checks)
    if not is_world(web, thing):
        return False
    sizes, _ = thing
    if len([size for size in sizes if size > 1]) > 1:
        return False
    return passes_all(thing, checks) and len(parted_pairs(web, thing)) > 0


def lacking(web, checks):
    """Tell the least number of further checks behind which the checks are enough."""
    need_checks(web, checks)
    return sum([len(lots) - 1 for lots in wide_groups(web, checks).values()])


def further(web, checks):
    """List as few further checks as any behind which the checks are enough."""
    need_checks(web, checks)
    told = wide_clusters(web)
    links = check_links(web, checks, told)
    found = []
    for pair in sorted(told):
        u, v = pair
        lots = groups_by(told[pair], links[pair])
        one, *others = [way_within(web, u, v, told[pair][lot[0]], 0) for lot in lots]
        found.extend([(min(one, other), max(one, other)) for other in others])
    return found


def is_further(web, checks, thing):
    """Tell whether a thing is checks, none of them among the checks, with which these are enough."""
    need_checks(web, checks)
    if not isinstance(thing, (list, tuple)):
        return False
    together = [*checks, *thing]
    return are_checks(web, together) and enough(web, together)


def _is_spare(told, links, check):
    """Tell whether links hold the clusters told together without one check."""
    return len(groups_by(told, [link for link in links if link[0] != check])) == 1


def spare(web, checks):
    """Tell the lot of the checks without each of which, alone, the others are enough."""
    found = trees(web, checks)
    if found is None:
        raise NotEnough()
    told = wide_clusters(web)
    links = check_links(web, checks, told)
    # A check outside of the trees is spare, as the trees are enough.
    needed = set([
        check for pair, lot in found.items() for check in lot if not _is_spare(told[pair], links[pair], check)])
    return tuple([check for check in range(len(checks)) if check not in needed])


def joining_checks(web, checks):
    """Tell the lot of the checks each of which holds together clusters that those ahead of it leave apart."""
    told = wide_clusters(web)
    links = check_links(web, checks, told)
    return tuple(sorted([check for pair in told for check in _tree(told[pair], links[pair])]))


def tidied(web, checks):
    """Tell the lot of the checks that stay when, from the last to the first, each spare one is left out."""
    if not enough(web, checks):
        raise NotEnough()
    # To leave out from the last one on keeps just those that join what all ahead of them leave apart.
    return joining_checks(web, checks)


def further_out_of(web, checks, liked):
    """List as few further checks as any behind which the checks are enough, as many of them liked ones as can be."""
    together = [*checks, *liked]
    chosen = [together[check] for check in joining_checks(web, together) if check >= len(checks)]
    return chosen + further(web, [*checks, *chosen])
