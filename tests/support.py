"""What several tests need: wrong things, example webs, and slow but plain ways of counting."""

import random

from enoughchecks.errors import NoWay
from enoughchecks.webs import Web

D = Web(4, ((0, 1), (0, 2), (1, 3), (2, 3)))
T = Web(4, ((0, 1), (0, 2), (1, 3), (2, 3), (1, 2)))
H = Web(2, ((0, 1), (0, 1), (0, 1)))
S = Web(3, ((0, 1), (0, 1), (1, 2)))


def nested(kind, depth):
    thing = kind()
    for _ in range(depth):
        thing = {"inner": thing} if kind is dict else kind([thing])
    return thing


def gone():
    yield 1


# Kinds of objects that are neither integers nor tuples.
NO_NUMBERS_NO_TUPLES = [
    None, True, False, "", "0", "ways", "\n", b"", b"\x00\x01", bytearray(b"\x00"), memoryview(b"\x01\x00"),
    [], [0], [0, 1], [(0, 1)], [[]], {}, {0: 0}, {0: (0, 1)}, {(0, 1): [None]}, range(0), range(3), slice(0, 1),
    Ellipsis, NotImplemented, int, tuple, Web, len, nested, gone(), iter([0]), reversed([0]), zip([0]), map(len, []),
    enumerate([0]), ValueError("x"), object(), {}.keys(), {0: 1}.items(), [].append, random, nested(list, 40),
    nested(dict, 40), Web(1, ()), Web(2, ((0, 1),)), NoWay(), [0] * 9999, {key: key for key in range(4999)},
    "0" * 20000,
]

# Tuples that hold at most one integer, so that they never are a pair, a way or an order of the webs above.
ODD_TUPLES = [
    (), (None,), (True,), (False,), ("0",), ([0],), ((0,),), ({},), (b"\x00",), (0, None), (0, "1"), (0, True),
    (False, True), ([], []), ({}, {}), ((), ()), (Web(1, ()), 0), (0, [1]), (None, None, None), (0, "a", {}),
    nested(tuple, 40), (nested(list, 39), nested(dict, 39)), (None,) * 9999, (True,) * 4, ("1",) * 400,
]

WRONG_NUMBERS = [-1, -2, -10 ** 59, 10 ** 59, 10 ** 60 - 1, *NO_NUMBERS_NO_TUPLES, *ODD_TUPLES, (0,), (0, 1)]
WRONG_TUPLES = [0, 1, -1, 10 ** 59, *NO_NUMBERS_NO_TUPLES, *ODD_TUPLES]


def plain_ways(web, u, v):
    """All ways from u to v, found by trying each arrow behind each way, and then sorted."""
    found = []
    begun = [(arrow,) for arrow, (begin, _) in enumerate(web.arrows) if begin == u]
    while begun:
        way = begun.pop()
        end = web.arrows[way[-1]][1]
        if end == v:
            found.append(way)
        begun.extend((*way, arrow) for arrow, (begin, _) in enumerate(web.arrows) if begin == end)
    return sorted(found)


def some_webs(many=60, most_places=6, most_arrows=10):
    """Always the same webs, with arrows alike, places without arrows and numbers that are not in order of arrows."""
    chooser = random.Random(20)
    webs = [D, T, H, S, Web(1, ()), Web(5, ())]
    for _ in range(many):
        places = chooser.randint(2, most_places)
        order = chooser.sample(range(places), places)
        arrows = []
        for _ in range(chooser.randint(0, most_arrows)):
            low, high = sorted(chooser.sample(range(places), 2))
            arrows.append((order[low], order[high]))
        webs.append(Web(places, tuple(arrows)))
    return webs


def row_web(places):
    """A row of places, each with one arrow to the one behind it."""
    return Web(places, tuple((place, place + 1) for place in range(places - 1)))


def wide_web():
    """60 places and 400 arrows, as many as there may be: 6 or 7 alike from place to place, and 13 more at the end."""
    arrows = [(place, place + 1) for place in range(59) for _ in range(6)]
    arrows += [(place, place + 1) for place in range(46)]
    return Web(60, tuple(arrows))
