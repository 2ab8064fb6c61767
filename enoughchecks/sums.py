"""Integers for the arrows, the sums of ways, and how many checks settle all sums."""

from math import gcd, lcm

from enoughchecks.basics import arrows_from, is_number, onward_order
from enoughchecks.checking import need_checks
from enoughchecks.errors import TooMany
from enoughchecks.leasts import least_list

MOST_ARROWS = 40


def _need_few(web):
    """Raise TooMany if the web has more arrows than may be tried."""
    if len(web.arrows) > MOST_ARROWS:
        raise TooMany(MOST_ARROWS)


def _row(web, check):
    """List, for each arrow, how often more the first way of a check has it than the other one."""
    one, other = check
    row = [0] * len(web.arrows)
    for arrow in one:
        row[arrow] += 1
    for arrow in other:
        row[arrow] -= 1
    return row


def _lowest(row):
    """Tell a row of integers divided by what all of them have in common."""
    common = 0
    for item in row:
        common = gcd(common, item)
    return [item // common for item in row] if common > 1 else row


def _cleared(row, pivot, by):
    """Tell a row in which nothing is left at the pivot, made so by means of a row that has something there."""
    return _lowest([item * by[pivot] - other * row[pivot] for item, other in zip(row, by)])


def _left_over(basis, row):
    """Tell what is left of a row when it is cleared by all rows of a basis: noughts alone if it follows from them."""
    left = row
    for pivot, by in basis:
        left = _cleared(left, pivot, by)
    return left


def _first(row):
    """Tell the index of the first item of a row that is not 0."""
    return [at for at, item in enumerate(row) if item != 0][0]


def _basis(rows):
    """List, for rows none of which follows from the others, pairs (pivot, row); each pivot is 0 in the other rows."""
    basis = []
    for row in rows:
        left = _left_over(basis, row)
        if any(left):
            pivot = _first(left)
            basis = [(at, _cleared(by, pivot, left)) for at, by in basis]
            basis.append((pivot, left))
    return basis


def _basis_of(web, checks):
    """List the basis of the rows of checks."""
    return _basis([_row(web, check) for check in checks])


def rank(web, checks):
    """Tell how few of the checks have alike sums of both ways only if all of them have."""
    need_checks(web, checks)
    _need_few(web)
    return len(_basis_of(web, checks))


def full_rank(web):
    """Tell how few checks of the web have alike sums of both ways only if all of its checks have."""
    _need_few(web)
    # All ways come from one another by exchanges of enough checks, so their sums follow from those of these.
    return len(_basis_of(web, least_list(web)))


def _numbers_at(basis, many, free):
    """Tell integers, not 0 at the index free, with which each row of a basis comes to 0.

    The index is the pivot of no row.
    """
    whole = 1
    for pivot, row in basis:
        whole = lcm(whole, row[pivot])
    found = [0] * many
    found[free] = whole
    for pivot, row in basis:
        found[pivot] = -row[free] * whole // row[pivot]
    return tuple(found)


def numbers(web, checks):
    """Tell integers for the arrows with which the sums of all checks are alike, but not those of all ways, or None."""
    need_checks(web, checks)
    _need_few(web)
    basis = _basis_of(web, checks)
    for check in least_list(web):
        left = _left_over(basis, _row(web, check))
        if any(left):
            # All that is left of this check stands outside of the pivots, and the numbers there are 0 but for one.
            return _numbers_at(basis, len(web.arrows), _first(left))
    return None


def _sum_of(thing, way):
    """Tell the sum of a way."""
    return sum([thing[arrow] for arrow in way])


def _are_sums_alike(web, rows, order, thing, start):
    """Tell whether any two ways from a place to one and the same place have one sum."""
    sums = {start: 0}
    for place in order:
        if place in sums:
            for arrow in rows[place]:
                told = sums[place] + thing[arrow]
                if sums.setdefault(web.arrows[arrow][1], told) != told:
                    return False
    return True


def is_numbers(web, checks, thing):
    """Tell whether a thing is a tuple of integers such as numbers tells."""
    need_checks(web, checks)
    if not isinstance(thing, tuple) or len(thing) != len(web.arrows):
        return False
    if not all([is_number(item) for item in thing]):
        return False
    if any([_sum_of(thing, one) != _sum_of(thing, other) for one, other in checks]):
        return False
    rows = arrows_from(web.places, web.arrows)
    order = onward_order(web.places, web.arrows)
    return not all([_are_sums_alike(web, rows, order, thing, place) for place in order])
