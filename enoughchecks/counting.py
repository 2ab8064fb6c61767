"""How many least lists there are, and a number for each of them.

For each pair with c clusters, a least list has a tree of c - 1 checks, written as c - 2 numbers of ways and one number
within each cluster: again and again the least cluster that one check alone joins is taken off, the number of its own
way is put in its place, and that of the way to which it is joined behind the others. When two clusters are left, both
ways of the last check are put in the places of these.
"""

from enoughchecks.basics import whole_below
from enoughchecks.clusters import cluster_among, number_within, sizes_among, way_within, wide_clusters
from enoughchecks.errors import NoList, NoNumber
from enoughchecks.leasts import is_least
from enoughchecks.ways import way_at, way_number
from enoughchecks.webs import ends


def _plans(web):
    """List, by ascending pairs, the triples (pair, clusters, bounds) of the pairs with two clusters or more.

    The bounds are those of the numbers with which a tree of the pair is written.
    """
    found = []
    told = wide_clusters(web)
    for pair in sorted(told):
        u, v = pair
        sizes = sizes_among(web, u, v, told[pair])
        found.append((pair, told[pair], [sum(sizes)] * (len(sizes) - 2) + sizes))
    return found


def _many(plans):
    """Tell how many least lists there are by the plans."""
    total = 1
    for _, _, bounds in plans:
        for bound in bounds:
            total *= bound
    return total


def least_many(web):
    """Tell how many least lists there are."""
    return _many(_plans(web))


def _tree_at(web, plan, numbers):
    """List the checks of the tree that is written with these numbers."""
    (u, v), told, _ = plan
    many = len(told)
    own = [way_within(web, u, v, cluster, number) for cluster, number in zip(told, numbers[many - 2:])]
    far = [way_at(web, u, v, number) for number in numbers[:many - 2]]
    homes = [cluster_among(web, told, way) for way in far]
    # How many checks join each cluster; none of those that are taken off.
    degrees = [homes.count(cluster) + 1 for cluster in range(many)]
    joined = []
    for way, home in zip(far, homes):
        leaf = degrees.index(1)
        joined.append((own[leaf], way))
        degrees[leaf] = 0
        degrees[home] -= 1
    joined.append((own[degrees.index(1)], own[-1]))
    return [(min(pair), max(pair)) for pair in joined]


def least_at(web, number):
    """Tell the least list that has this number."""
    plans = _plans(web)
    if not whole_below(number, _many(plans)):
        raise NoNumber()
    left = number
    found = []
    for plan in plans:
        numbers = []
        for bound in plan[2]:
            left, low = divmod(left, bound)
            numbers.append(low)
        found.extend(_tree_at(web, plan, numbers))
    return tuple(sorted(found))


def _numbers_of(web, plan, tree):
    """List the numbers with which a tree is written."""
    _, told, _ = plan
    many = len(told)
    links = [[(cluster_among(web, told, way), way) for way in check] for check in tree]
    homes = [home for link in links for home, _ in link]
    degrees = [homes.count(cluster) for cluster in range(many)]
    own = [0] * many
    far = []
    for _ in range(many - 2):
        leaf = degrees.index(1)
        at = [leaf in (one[0], other[0]) for one, other in links].index(True)
        one, other = links[at]
        (_, way), (home, behind) = (one, other) if one[0] == leaf else (other, one)
        links = links[:at] + links[at + 1:]
        own[leaf] = number_within(web, told[leaf], way)
        far.append(way_number(web, behind))
        degrees[leaf] = 0
        degrees[home] -= 1
    for home, way in links[0]:
        own[home] = number_within(web, told[home], way)
    return far + own


def least_index(web, thing):
    """Tell the number of a least list."""
    if not is_least(web, thing):
        raise NoList()
    total = 0
    for plan in reversed(_plans(web)):
        pair, _, bounds = plan
        tree = [check for check in thing if ends(web, check[0]) == pair]
        for number, bound in reversed(list(zip(_numbers_of(web, plan, tree), bounds))):
            total = total * bound + number
    return total
