"""Judges, functions that tell whether ways follow, and the least check of which one is wrong."""

from enoughchecks.chains import classes_among
from enoughchecks.checking import checks_many, need_checks
from enoughchecks.errors import NoAnswer, TooMany
from enoughchecks.ways import counts_to, ways

MOST_CHECKS = 2000


def _answers(web, checks):
    """List, by ascending checks, pairs (check, follows) of all checks of the web and of whether their ways follow."""
    pairs = [(u, v) for v in range(web.places) for u, count in enumerate(counts_to(web, v)) if count > 1]
    rows = [ways(web, u, v) for u, v in pairs]
    lots = classes_among(checks, sorted([way for row in rows for way in row]))
    homes = {way: lot[0] for lot in lots for way in lot}
    found = []
    for row in rows:
        for at, one in enumerate(row):
            found.extend([((one, other), homes[one] == homes[other]) for other in row[at + 1:]])
    return sorted(found)


def wrong_judge(web, checks, judge):
    """Tell the least check of the web of which a judge does not tell rightly whether its ways follow, or None."""
    need_checks(web, checks)
    if checks_many(web) > MOST_CHECKS:
        raise TooMany(MOST_CHECKS)
    for check, right in _answers(web, checks):
        one, other = check
        told = judge(one, other)
        if not isinstance(told, bool):
            raise NoAnswer(check)
        if told != right:
            return check
    return None
