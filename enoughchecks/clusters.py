"""Clusters of ways, and which of them checks hold together."""

from enoughchecks.basics import arrows_from, parts
from enoughchecks.checking import need_checks
from enoughchecks.ways import counts_to, way_at, way_number
from enoughchecks.webs import between, ends, reached


def _clusters_over(web, rows, u, v, inner):
    """List, ascending, the clusters from u to v, the places between being known."""
    found = [("arrow", arrow) for arrow in rows[u] if web.arrows[arrow][1] == v]
    # A place that reaches another one does so over arrows, so arrows alone link the places.
    links = [web.arrows[arrow] for place in inner for arrow in rows[place]]
    among = set(inner)
    lots = parts(inner, [(begin, end) for begin, end in links if end in among])
    found.extend([("places", lot) for lot in lots])
    return found


def clusters(web, u, v):
    """List, ascending, the clusters from u to v, each as ("arrow", arrow) or as ("places", lot)."""
    inner = between(web, u, v)
    return _clusters_over(web, arrows_from(web.places, web.arrows), u, v, inner)


def _wide_to(web, rows, behind, v):
    """List the pairs (u, clusters) of the places u, for which behind has what they reach, with two clusters to v."""
    counts = counts_to(web, v)
    found = []
    for u, far in behind.items():
        firsts = [web.arrows[arrow][1] for arrow in rows[u] if counts[web.arrows[arrow][1]] > 0]
        # Ways that all go to one place first are one cluster, and to leave these out saves much time.
        if len(set(firsts)) > 1 or firsts.count(v) > 1:
            inner = [place for place in far if counts[place] > 0 and place not in (u, v)]
            told = _clusters_over(web, rows, u, v, inner)
            if len(told) > 1:
                found.append((u, told))
    return found


def wide_clusters(web):
    """Tell the dict from each pair (u, v) with two clusters or more to the list of these."""
    rows = arrows_from(web.places, web.arrows)
    lasts = [end for _, end in web.arrows]
    # Two clusters take two arrows at their begin, and two at their end.
    behind = {place: reached(web, place) for place, row in enumerate(rows) if len(row) > 1}
    found = {}
    for v in [place for place in range(web.places) if lasts.count(place) > 1]:
        for u, told in _wide_to(web, rows, behind, v):
            found[(u, v)] = told
    return found


def cluster_among(web, told, way):
    """Tell the index of the cluster of a way among the clusters told for its ends."""
    if len(way) == 1:
        return told.index(("arrow", way[0]))
    # All places between that the way passes lie in one cluster, so the first one tells it.
    place = web.arrows[way[0]][1]
    return [index for index, (kind, lot) in enumerate(told) if kind == "places" and place in lot][0]


def cluster_of(web, way):
    """Tell the index of the cluster of a way in the list of clusters for its ends."""
    u, v = ends(web, way)
    return cluster_among(web, clusters(web, u, v), way)


def _into(web, u, lot):
    """List, ascending, the arrows from u to the places of a lot."""
    return [arrow for arrow, (begin, end) in enumerate(web.arrows) if begin == u and end in lot]


def sizes_among(web, u, v, told):
    """List how many ways each of the clusters told from u to v has."""
    counts = counts_to(web, v)
    found = []
    for kind, lot in told:
        if kind == "arrow":
            found.append(1)
        else:
            found.append(sum([counts[web.arrows[arrow][1]] for arrow in _into(web, u, lot)]))
    return found


def cluster_sizes(web, u, v):
    """List how many ways each cluster from u to v has."""
    return sizes_among(web, u, v, clusters(web, u, v))


def way_within(web, u, v, cluster, number):
    """Tell the way that has this index among the ascending ways of a cluster from u to v."""
    kind, lot = cluster
    if kind == "arrow":
        return (lot,)
    counts = counts_to(web, v)
    left = number
    for first in _into(web, u, lot):
        place = web.arrows[first][1]
        if left < counts[place]:
            break
        left -= counts[place]
    return (first, *way_at(web, place, v, left))


def number_within(web, cluster, way):
    """Tell the index of a way among the ascending ways of its cluster."""
    kind, lot = cluster
    if kind == "arrow":
        return 0
    u, v = ends(web, way)
    counts = counts_to(web, v)
    lesser = [arrow for arrow in _into(web, u, lot) if arrow < way[0]]
    return sum([counts[web.arrows[arrow][1]] for arrow in lesser]) + way_number(web, way[1:])


def check_links(web, checks, told):
    """Tell the dict from each pair told to the triples (check, cluster, cluster) of its checks and their ways.

    What is told is a dict from pairs (u, v) to the clusters from u to v.
    """
    found = {pair: [] for pair in told}
    for check, (one, other) in enumerate(checks):
        pair = ends(web, one)
        if pair in told:
            here = cluster_among(web, told[pair], one)
            there = cluster_among(web, told[pair], other)
            found[pair].append((check, here, there))
    return found


def groups_by(told, links):
    """List, ascending, the lots of indexes of clusters that links, triples of check_links, hold together."""
    return parts(list(range(len(told))), [(one, other) for _, one, other in links])


def groups(web, checks, u, v):
    """List, ascending, the lots of indexes of clusters from u to v that checks hold together."""
    need_checks(web, checks)
    told = clusters(web, u, v)
    return groups_by(told, check_links(web, checks, {(u, v): told})[(u, v)])


def wide_groups(web, checks):
    """Tell the dict from each pair (u, v) with two clusters or more to the list of its groups."""
    told = wide_clusters(web)
    links = check_links(web, checks, told)
    return {pair: groups_by(told[pair], links[pair]) for pair in told}


def holes(web, checks):
    """List, ascending, the pairs (u, v) with two groups or more."""
    need_checks(web, checks)
    return sorted([pair for pair, lots in wide_groups(web, checks).items() if len(lots) > 1])
