"""The cheapest checks out of a stock that are enough."""

from enoughchecks.basics import is_whole, joining
from enoughchecks.checking import need_checks
from enoughchecks.clusters import check_links, wide_clusters
from enoughchecks.errors import NoPrices


def _are_prices(many, thing):
    """Tell whether a thing is a tuple of so many integers from 0 on."""
    if not isinstance(thing, tuple) or len(thing) != many:
        return False
    return all([is_whole(item) for item in thing])


def cheapest(web, stock, prices):
    """Tell the pair (price, lot) of the cheapest checks of a stock that are enough and none spare, or None.

    Of lots of one price it is the least one.
    """
    need_checks(web, stock)
    if not _are_prices(len(stock), prices):
        raise NoPrices()
    told = wide_clusters(web)
    found = []
    for pair, links in check_links(web, stock, told).items():
        # To take what is cheapest, and of alike prices what is first, and to leave out only what joins nothing new,
        # finds a lot that is least by price and then by index.
        ordered = sorted(links, key=lambda link: (prices[link[0]], link[0]))
        joined = joining(len(told[pair]), [(one, other) for _, one, other in ordered])
        if len(joined) < len(told[pair]) - 1:
            return None
        found.extend([ordered[at][0] for at in joined])
    return (sum([prices[check] for check in found]), tuple(sorted(found)))
