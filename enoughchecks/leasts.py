"""Least lists: as few checks as any that are enough."""

from enoughchecks.checking import are_checks
from enoughchecks.clusters import way_within, wide_clusters
from enoughchecks.enough import enough


def least_number(web):
    """Tell the least number of checks that are enough."""
    return sum([len(told) - 1 for told in wide_clusters(web).values()])


def least_pairs(web):
    """List, ascending, the triples (u, v, clusters) of the pairs with two clusters or more."""
    return sorted([(u, v, len(told)) for (u, v), told in wide_clusters(web).items()])


def is_least(web, thing):
    """Tell whether a thing is an ascending tuple of as few checks as any that are enough."""
    if not isinstance(thing, tuple) or not are_checks(web, thing):
        return False
    if any([check > after for check, after in zip(thing, thing[1:])]):
        return False
    return len(thing) == least_number(web) and enough(web, thing)


def least_list(web):
    """Tell the least one of the least lists."""
    found = []
    for (u, v), told in wide_clusters(web).items():
        # The checks of the very least way stand ahead of all others, and those with the least ways of the other
        # clusters hold all clusters together.
        one, *others = sorted([way_within(web, u, v, cluster, 0) for cluster in told])
        found.extend([(one, other) for other in others])
    return tuple(sorted(found))
