"""What several tests need: wrong things, example webs, checks and worlds, and slow but plain ways of counting."""

import itertools
import random

from enoughchecks.desk import Desk
from enoughchecks.errors import NoChecks, NoPair, NoSort, NoTold, NoWay
from enoughchecks.ledgers import Ledger
from enoughchecks.webs import Web

D = Web(4, ((0, 1), (0, 2), (1, 3), (2, 3)))
T = Web(4, ((0, 1), (0, 2), (1, 3), (2, 3), (1, 2)))
H = Web(2, ((0, 1), (0, 1), (0, 1)))
S = Web(3, ((0, 1), (0, 1), (1, 2)))
# Checks of T that are enough, as in the examples.
C = [((0, 4), (1,)), ((2,), (4, 3))]


def nested(kind, depth):
    thing = kind()
    for _ in range(depth):
        thing = {"inner": thing} if kind is dict else kind([thing])
    return thing


def gone():
    yield 1


# Kinds of objects that are neither integers nor tuples.
NO_NUMBERS_NO_TUPLES = [
    None, True, False, "", "0", "ways", "\n", b"", b"\x00\x01", bytearray(b"\x00"), memoryview(b"\x01\x00"),
    [], [0], [0, 1], [(0, 1)], [[]], {}, {0: 0}, {0: (0, 1)}, {(0, 1): [None]}, range(0), range(3), slice(0, 1),
    Ellipsis, NotImplemented, int, tuple, Web, len, nested, gone(), iter([0]), reversed([0]), zip([0]), map(len, []),
    enumerate([0]), ValueError("x"), object(), {}.keys(), {0: 1}.items(), [].append, random, nested(list, 40),
    nested(dict, 40), Web(1, ()), Web(2, ((0, 1),)), NoWay(), Ledger(Web(1, ())), Desk(), [0] * 9999,
    {key: key for key in range(4999)}, "0" * 20000,
]

# Tuples that hold at most one integer, so that they never are a pair, a way or an order of the webs above.
ODD_TUPLES = [
    (), (None,), (True,), (False,), ("0",), ([0],), ((0,),), ({},), (b"\x00",), (0, None), (0, "1"), (0, True),
    (False, True), ([], []), ({}, {}), ((), ()), (Web(1, ()), 0), (0, [1]), (None, None, None), (0, "a", {}),
    nested(tuple, 40), (nested(list, 39), nested(dict, 39)), (None,) * 9999, (True,) * 4, ("1",) * 400,
]

WRONG_NUMBERS = [-1, -2, -10 ** 59, 10 ** 59, 10 ** 60 - 1, *NO_NUMBERS_NO_TUPLES, *ODD_TUPLES, (0,), (0, 1)]
WRONG_TUPLES = [0, 1, -1, 10 ** 59, *NO_NUMBERS_NO_TUPLES, *ODD_TUPLES]

# What are no ways, checks, sorts and told arrows of T.
WRONG_WAYS = [*WRONG_TUPLES, (0, 1), (5,), [0, 2], (True, 3)]
NO_CHECKS = [None, [C[0], C[0]], C[0], {}, "ab", [None], [((1,), (0, 4))], 0, True, [[(0, 4), (1,)]]]
NO_SORTS = [*NO_NUMBERS_NO_TUPLES, *ODD_TUPLES, 0, 1, "on", "One", "ONE", "onto ", "one onto", "o", b"one", b"onto",
            ("one",), ["onto"], ("one", "onto")]
NO_TOLD = [*NO_NUMBERS_NO_TUPLES, 0, 1, [2], (-1,), (1, 0), (0, 0), (True,), (0, True), (None,), ("0",), ((0,),),
           (0, None), (10 ** 59,), nested(tuple, 40), "one", (0, 2, 1), (5,), (0, 1, 2, 3, 4, 5)]


def plain_ways(web, u, v):
    """All ways from u to v, found by trying each arrow behind each way, and then sorted."""
    found = []
    begun = [(arrow,) for arrow, (begin, _) in enumerate(web.arrows) if begin == u]
    while begun:
        way = begun.pop()
        end = web.arrows[way[-1]][1]
        if end == v:
            found.append(way)
        begun.extend((*way, arrow) for arrow, (begin, _) in enumerate(web.arrows) if begin == end)
    return sorted(found)


def some_webs(many=60, most_places=6, most_arrows=10):
    """Always the same webs, with arrows alike, places without arrows and numbers that are not in order of arrows."""
    chooser = random.Random(20)
    webs = [D, T, H, S, Web(1, ()), Web(5, ())]
    for _ in range(many):
        places = chooser.randint(2, most_places)
        order = chooser.sample(range(places), places)
        arrows = []
        for _ in range(chooser.randint(0, most_arrows)):
            low, high = sorted(chooser.sample(range(places), 2))
            arrows.append((order[low], order[high]))
        webs.append(Web(places, tuple(arrows)))
    return webs


def row_web(places):
    """A row of places, each with one arrow to the one behind it."""
    return Web(places, tuple((place, place + 1) for place in range(places - 1)))


def wide_web():
    """60 places and 400 arrows, as many as there may be: 6 or 7 alike from place to place, and 13 more at the end."""
    arrows = [(place, place + 1) for place in range(59) for _ in range(6)]
    arrows += [(place, place + 1) for place in range(46)]
    return Web(60, tuple(arrows))


def double_row(steps):
    """A web in which 2 ** steps ways lead from the first place to the last one."""
    return Web(steps + 1, tuple((place, place + 1) for place in range(steps) for _ in range(2)))


def plain_checks(web):
    """All checks of the web, ascending."""
    return sorted(check for u in range(web.places) for v in range(web.places)
                  for check in itertools.combinations(plain_ways(web, u, v), 2))


def some_checks(web, chooser, most=4):
    """Some checks of the web in any order, at times as a list and at times as a tuple."""
    every = plain_checks(web)
    chosen = chooser.sample(every, min(len(every), chooser.randint(0, most)))
    return chosen if chooser.random() < 0.5 else tuple(chosen)


def plain_led(web, world, way, thing):
    for arrow in way:
        thing = world[1][arrow][thing]
    return thing


def agree(web, world, one, other):
    begin = web.arrows[one[0]][0]
    return all(plain_led(web, world, one, thing) == plain_led(web, world, other, thing)
               for thing in range(world[0][begin]))


def some_world(web, chooser, most=3):
    """A world with up to most things at each place; places that reach one without things have none."""
    sizes = [chooser.randint(0, most) for _ in range(web.places)]
    for _ in range(web.places):
        for begin, end in web.arrows:
            if sizes[end] == 0:
                sizes[begin] = 0
    tables = [tuple(chooser.randrange(sizes[end]) for _ in range(sizes[begin])) for begin, end in web.arrows]
    return (tuple(sizes), tuple(tables))


def all_worlds(web, most):
    """All worlds with up to most things at each place."""
    for sizes in itertools.product(range(most + 1), repeat=web.places):
        rows = [itertools.product(range(sizes[end]), repeat=sizes[begin]) for begin, end in web.arrows]
        for tables in itertools.product(*rows):
            yield (sizes, tables)


def held_together(things, links):
    """The ascending list of ascending lists into which things fall that links, pairs of them, hold together."""
    lots = [[thing] for thing in sorted(things)]
    for one, other in links:
        joined = [lot for lot in lots if one in lot or other in lot]
        lots = [lot for lot in lots if lot not in joined] + [sum(joined, [])]
    return sorted(sorted(lot) for lot in lots)


def places_between(web, way):
    return {web.arrows[arrow][1] for arrow in way[:-1]}


def plain_clusters(web, u, v):
    """The ascending list of the pairs (as the cluster is told, its ways), found by which two ways touch."""
    found = plain_ways(web, u, v)
    touching = [(one, other) for one, other in itertools.combinations(found, 2)
                if places_between(web, one) & places_between(web, other)]
    told = []
    for lot in held_together(found, touching):
        if len(lot[0]) == 1:
            told.append((("arrow", lot[0][0]), lot))
        else:
            places = set().union(*[places_between(web, way) for way in lot])
            told.append((("places", tuple(sorted(places))), lot))
    return sorted(told)


def plain_groups(web, checks, u, v):
    """The groups of clusters, found by listing all ways."""
    home = {way: index for index, (_, lot) in enumerate(plain_clusters(web, u, v)) for way in lot}
    links = [(home[one], home[other]) for one, other in checks if one in home]
    return [tuple(lot) for lot in held_together(set(home.values()), links)]


def plain_classes(web, checks, u, v):
    """The lots of ways from u to v that are led to one another by replacing one side of a check by the other."""
    found = plain_ways(web, u, v)
    links = []
    for way in found:
        for one, other in checks:
            for at in range(len(way)):
                if way[at:at + len(one)] == one:
                    links.append((way, way[:at] + other + way[at + len(one):]))
    return held_together(found, links)


def plainly_enough(web, checks):
    """Whether all ways with the same ends come from one another by exchanges, whatever clusters there are."""
    return all(len(plain_classes(web, checks, u, v)) <= 1 for u in range(web.places) for v in range(web.places))


def many_ways_web(many):
    """A web of three places with 1500 ways from the first one to the last one, and further arrows up to so many."""
    return Web(3, ((0, 1),) * 30 + ((1, 2),) * 50 + ((0, 2),) * (many - 1500))


def ways_of(web):
    """All ways of the whole web, ascending."""
    return sorted(way for u in range(web.places) for v in range(web.places) for way in plain_ways(web, u, v))


def home_of_ways(web, checks):
    """Of each way the least one from which it follows, found by exchanging."""
    lots = [lot for u in range(web.places) for v in range(web.places) for lot in plain_classes(web, checks, u, v)]
    return {way: lot[0] for lot in lots for way in lot}


def shuffled_world(web, world, chooser):
    """The same world with its things numbered in another order."""
    orders = [chooser.sample(range(size), size) for size in world[0]]
    tables = []
    for (begin, end), table in zip(web.arrows, world[1]):
        row = [None] * len(table)
        for thing, to in enumerate(table):
            row[orders[begin][thing]] = orders[end][to]
        tables.append(tuple(row))
    return (world[0], tuple(tables))


def changed_world(web, world, chooser):
    """The world with one table's item replaced, perhaps by the same one; None if there is none."""
    places = [(arrow, at) for arrow, table in enumerate(world[1]) for at in range(len(table))]
    if not places:
        return None
    arrow, at = chooser.choice(places)
    tables = [list(table) for table in world[1]]
    tables[arrow][at] = chooser.randrange(world[0][web.arrows[arrow][1]])
    return (world[0], tuple(tuple(table) for table in tables))


def raises_told_errors(case, call):
    """Assert that a call of 8.1 or 8.2 raises the errors for checks, sort and told arrows, in this order."""
    for checks in NO_CHECKS:
        with case.assertRaises(NoChecks):
            call(T, checks, None, None, None, None)
    for sort in NO_SORTS:
        with case.assertRaises(NoSort):
            call(T, C, sort, None, None, None)
    for told in NO_TOLD:
        with case.assertRaises(NoTold):
            call(T, C, "one", told, None, None)


def raises_told_errors_first(case, call):
    """Assert that a call of 8.1 or 8.2 raises these errors also where the web has too many ways."""
    web = Web(3, ((0, 1),) * 301 + ((1, 2),))
    for checks, sort, told, error in (([None], "one", (), NoChecks), ([], "two", (), NoSort), ([], "one", [0], NoTold)):
        with case.assertRaises(error):
            call(web, checks, sort, told, (0,), (0,))


def raises_pair_errors(case, call):
    """Assert that a call of 8.1 or 8.2 raises the errors for its two ways, in their order and ahead of TooMany."""
    for way in WRONG_WAYS:
        with case.assertRaises(NoWay):
            call(T, C, "one", (), way, None)
        with case.assertRaises(NoWay):
            call(T, C, "onto", (0,), (0,), way)
    for one, other in (((0, 2), (0,)), ((0,), (1,)), ((2,), (0, 2)), ((0, 4), (0, 4, 3))):
        with case.assertRaises(NoPair):
            call(T, C, "one", (0, 1), one, other)
    web = Web(3, ((0, 1),) * 301 + ((1, 2),))
    for other, error in (((302,), NoWay), ((0, 301), NoPair)):
        with case.assertRaises(error):
            call(web, [], "onto", (), (0,), other)


def struck_pairs(sort, told, one, other):
    """What two ways that surely follow tell by a strike: a list of one pair, or of none."""
    if sort == "one" and one[-1] == other[-1] and one[-1] in told:
        return [(one[:-1], other[:-1])]
    if sort == "onto" and one[0] == other[0] and one[0] in told:
        return [(one[1:], other[1:])]
    return []


def plain_homes(web, checks, sort, told):
    """Of each way the least one from which it surely follows, by trying every rule on all pairs again and again."""
    homes = {way: way for way in ways_of(web)}
    while True:
        pairs = list(checks)
        for one, other in itertools.combinations(homes, 2):
            if homes[one] == homes[other]:
                for arrow in range(len(web.arrows)):
                    pairs.append(((arrow, *one), (arrow, *other)))
                    pairs.append(((*one, arrow), (*other, arrow)))
                pairs.extend(struck_pairs(sort, told, one, other))
        joined = [(one, other) for one, other in pairs if one in homes and homes[one] != homes[other]]
        if not joined:
            return homes
        for one, other in joined:
            least, most = sorted((homes[one], homes[other]))
            homes = {way: least if home == most else home for way, home in homes.items()}


def some_told(web, chooser):
    """Some arrows of the web, at times none and at times all."""
    many = len(web.arrows)
    return tuple(sorted(chooser.sample(range(many), chooser.choice((0, many, chooser.randint(0, many))))))


def plainly_so(web, sort, told, world):
    """Whether each told arrow is one-to-one or onto in a world, as the sort asks."""
    for arrow in told:
        end = web.arrows[arrow][1]
        if sort == "one" and len(set(world[1][arrow])) < len(world[1][arrow]):
            return False
        if sort == "onto" and set(world[1][arrow]) != set(range(world[0][end])):
            return False
    return True
