"""Which ways surely follow from one another where arrows are told to be one-to-one or onto, and papers that show it."""

from enoughchecks.basics import arrows_from, is_lot, whole_below
from enoughchecks.checking import need_checks
from enoughchecks.errors import NoSort, NoTold, TooMany
from enoughchecks.ways import every_way, ways_in_all
from enoughchecks.webs import common_ends, ends, is_way

MOST_WAYS_IN_ALL = 300


def need_told(web, checks, sort, told):
    """Raise NoChecks, NoSort or NoTold unless the things are checks, a sort and told arrows of the web."""
    need_checks(web, checks)
    if not isinstance(sort, str) or sort not in ("one", "onto"):
        raise NoSort()
    if not is_lot(told, len(web.arrows)):
        raise NoTold()


def _split(sort, way):
    """Tell the pair of the arrow that a strike takes off a way and of what is left, perhaps of nothing."""
    if sort == "one":
        return (way[-1], way[:-1])
    return (way[0], way[1:])


def _struck(sort, told, lot, other_lot):
    """List what strikes tell if the ways of one lot follow from those of another one.

    Each is a triple (one, other, reason), in the reason of which both ways stand that are struck.
    """
    found = []
    for one in lot:
        arrow, rest = _split(sort, one)
        if arrow in told:
            for other in other_lot:
                other_arrow, other_rest = _split(sort, other)
                if other_arrow == arrow:
                    found.append((rest, other_rest, ("strike", one, other)))
    return found


def _longer(web, rows, line, one, other):
    """List, as triples (one, other, reason), what a line of two ways tells of both with an arrow ahead or behind."""
    begin, end = ends(web, one)
    into = [arrow for arrow, (_, place) in enumerate(web.arrows) if place == begin]
    found = [((arrow, *one), (arrow, *other), ("ahead", line, arrow)) for arrow in into]
    found.extend([((*one, arrow), (*other, arrow), ("behind", line, arrow)) for arrow in rows[end]])
    return found


def closing(web, checks, sort, told):
    """Tell the pair (homes, lines) of what surely follows in a web with ways few enough, or raise TooMany.

    homes is a dict from each way to one that stands for all that surely follow from it. lines are triples
    (one, other, reason), each of which joins what those ahead of it leave apart.
    """
    if ways_in_all(web) > MOST_WAYS_IN_ALL:
        raise TooMany(MOST_WAYS_IN_ALL)
    rows = arrows_from(web.places, web.arrows)
    homes = {way: way for way in every_way(web)}
    lots = {way: [way] for way in homes}
    waiting = [(one, other, ("check", check)) for check, (one, other) in enumerate(checks)]
    lines = []
    done = 0
    while done < len(waiting):
        one, other, reason = waiting[done]
        kept = homes[one]
        gone = homes[other]
        if kept != gone:
            # What lines that are left out would tell by arrows ahead or behind, those that join their ways tell.
            waiting.extend(_longer(web, rows, len(lines), one, other))
            waiting.extend(_struck(sort, told, lots[kept], lots[gone]))
            lines.append((one, other, reason))
            for way in lots[gone]:
                homes[way] = kept
            lots[kept] = lots[kept] + lots[gone]
        done += 1
    return (homes, lines)


def surely(web, checks, sort, told, one, other):
    """Tell whether two ways agree in every world that passes all checks and in which told arrows are of the sort."""
    need_told(web, checks, sort, told)
    common_ends(web, one, other)
    homes, _ = closing(web, checks, sort, told)
    return homes[one] == homes[other]


def enough_so(web, checks, sort, told):
    """Tell whether any two ways with the same ends surely follow from one another."""
    need_told(web, checks, sort, told)
    homes, _ = closing(web, checks, sort, told)
    pairs = set([ends(web, way) for way in homes])
    return len(set(list(homes.values()))) == len(pairs)


def _steps(lines):
    """Tell the dict from each way to the triples (line, turned, way) of the lines that join it to others."""
    found = {}
    for line, (one, other, _) in enumerate(lines):
        found.setdefault(one, []).append((line, False, other))
        found.setdefault(other, []).append((line, True, one))
    return found


def _path(steps, one, other):
    """List the pairs (line, turned) that join a way to another one; there is only one such path."""
    ahead = {one: None}
    waiting = [one]
    while waiting:
        way = waiting.pop()
        for line, turned, behind in steps.get(way, ()):
            if behind not in ahead:
                ahead[behind] = (line, turned, way)
                waiting.append(behind)
    found = []
    way = other
    while way != one:
        line, turned, way = ahead[way]
        found.append((line, turned))
    return found[::-1]


def _needs(steps, reason):
    """List the lines that a reason leans on."""
    if reason[0] == "check":
        return []
    if reason[0] == "strike":
        return [line for line, _ in _path(steps, reason[1], reason[2])]
    return [reason[1]]


def _needed(lines, steps, path):
    """List, ascending, the lines that a path leans on."""
    needed = set([line for line, _ in path])
    # A line leans only on lines ahead of it.
    for line in reversed(range(len(lines))):
        if line in needed:
            for other in _needs(steps, lines[line][2]):
                needed.add(other)
    return sorted(needed)


def _write_path(written, numbers, path):
    """Write, behind the lines that are written, what joins the lines of a path.

    numbers is a dict from lines to the numbers under which they are written. The number of the line that has both ends
    of the path is told.
    """
    found = None
    for line, turned in path:
        here = numbers[line]
        if turned:
            one, other, _ = written[here]
            written.append((other, one, ("turn", here)))
            here = len(written) - 1
        if found is not None:
            written.append((written[found][0], written[here][1], ("join", found, here)))
            here = len(written) - 1
        found = here
    return found


def _write_line(written, numbers, steps, line):
    """Write, behind the lines that are written, a line and what joins the lines on which it leans."""
    one, other, reason = line
    if reason[0] == "strike":
        number = _write_path(written, numbers, _path(steps, reason[1], reason[2]))
        written.append((one, other, ("strike", number)))
    elif reason[0] == "check":
        written.append(line)
    else:
        word, leant_on, arrow = reason
        written.append((one, other, (word, numbers[leant_on], arrow)))


def paper(web, checks, sort, told, one, other):
    """Tell a paper that shows that a way surely follows from another one, or None."""
    need_told(web, checks, sort, told)
    common_ends(web, one, other)
    homes, lines = closing(web, checks, sort, told)
    if homes[one] != homes[other]:
        return None
    if one == other:
        return ((one, other, ("same",)),)
    steps = _steps(lines)
    path = _path(steps, one, other)
    written = []
    numbers = {}
    for line in _needed(lines, steps, path):
        _write_line(written, numbers, steps, lines[line])
        numbers[line] = len(written) - 1
    # If there is nothing to turn or to join, the line that was written last has both ways.
    _write_path(written, numbers, path)
    return tuple(written)


def _is_struck(sort, told, line, one, other):
    """Tell whether two ways are those of a line without a told arrow that both have where the sort strikes."""
    left, right, _ = line
    arrow, rest = _split(sort, left)
    return arrow in told and one == rest and _split(sort, right) == (arrow, other)


def _leans_rightly(web, sort, told, lines, line):
    """Tell whether a line has a reason that leans on lines ahead of it, and rightly so."""
    one, other, (word, *rest) = line
    if len(rest) == 0 or not whole_below(rest[0], len(lines)):
        return False
    left, right, _ = lines[rest[0]]
    if word == "turn":
        return len(rest) == 1 and (other, one) == (left, right)
    if word == "strike":
        return len(rest) == 1 and _is_struck(sort, told, lines[rest[0]], one, other)
    if len(rest) != 2:
        return False
    if word == "join":
        return whole_below(rest[1], len(lines)) and one == left and lines[rest[1]][:2] == (right, other)
    if not whole_below(rest[1], len(web.arrows)):
        return False
    if word == "ahead":
        return (one, other) == ((rest[1], *left), (rest[1], *right))
    return word == "behind" and (one, other) == ((*left, rest[1]), (*right, rest[1]))


def _is_line(web, checks, sort, told, lines, thing):
    """Tell whether a thing is a line that may stand behind the lines."""
    if not isinstance(thing, tuple) or len(thing) != 3:
        return False
    one, other, reason = thing
    if not is_way(web, one) or not is_way(web, other) or ends(web, one) != ends(web, other):
        return False
    if not isinstance(reason, tuple) or len(reason) == 0 or not isinstance(reason[0], str):
        return False
    if reason[0] == "same":
        return len(reason) == 1 and one == other
    if reason[0] == "check":
        return len(reason) == 2 and whole_below(reason[1], len(checks)) and checks[reason[1]] == (one, other)
    return _leans_rightly(web, sort, told, lines, thing)


def is_paper(web, checks, sort, told, one, other, thing):
    """Tell whether a thing is a paper, short or long, that shows that a way surely follows from another one."""
    need_told(web, checks, sort, told)
    common_ends(web, one, other)
    if not isinstance(thing, tuple) or len(thing) == 0:
        return False
    lines = []
    for line in thing:
        if not _is_line(web, checks, sort, told, lines, line):
            return False
        lines.append(line)
    return lines[-1][:2] == (one, other)
