"""0.2 to 0.5 over all that has landed: any object where an error is named, nothing changed, no RecursionError."""

import copy
import unittest

from enoughchecks import errors
from enoughchecks.chains import chain, classes, exchanged, follows, is_chain
from enoughchecks.changes import beside, cube, floor, mirrored, numbered, with_arrow, without_arrow
from enoughchecks.checking import checks_many, is_check
from enoughchecks.clusters import cluster_of, cluster_sizes, clusters, groups, holes
from enoughchecks.counting import least_at, least_index, least_many
from enoughchecks.desk import Desk
from enoughchecks.enough import enough, further, is_further, is_small_world, is_trees, lacking, small_world, spare
from enoughchecks.enough import tidied, trees
from enoughchecks.judges import wrong_judge
from enoughchecks.leasts import is_least, least_list, least_number
from enoughchecks.ledgers import Ledger
from enoughchecks.logs import log, restored
from enoughchecks.papers import enough_so, is_paper, paper, surely
from enoughchecks.partings import is_parting, parting
from enoughchecks.reading import read_checks, read_web
from enoughchecks.roads import is_road, road
from enoughchecks.roots import root_checks, root_tree
from enoughchecks.stocks import cheapest
from enoughchecks.sums import full_rank, is_numbers, numbers, rank
from enoughchecks.suspects import bar, is_bar, is_spoiled, never_seen, next_check, spoiled, suspects, unseen
from enoughchecks.texts import checks_text, web_text
from enoughchecks.ways import way_at, way_number, ways, ways_many
from enoughchecks.webs import Web, between, ends, is_way, passed, reached, reaching
from enoughchecks.wholes import beyond, is_world_of_all, world_of_all
from enoughchecks.worlds import failed, is_parted_ways, is_world, led, parted_pairs, parted_thing, parted_ways
from tests.support import C, NO_NUMBERS_NO_TUPLES, ODD_TUPLES, T, double_row, nested, row_web

ONE_EACH = ((1, 1, 1, 1), ((0,),) * 5)


def told_calls():
    """The calls of 8.1 and 8.2, which name the same errors for the same arguments."""
    def calls_of(name, call):
        return [
            (f"{name}, checks", lambda thing: call(T, thing, "one", (), (0,), (0,)), errors.NoChecks),
            (f"{name}, sort", lambda thing: call(T, C, thing, thing, (0,), (0,)), errors.NoSort),
            (f"{name}, a told arrow", lambda thing: call(T, C, "onto", (0, thing), (0,), (0,)), errors.NoTold),
            (f"{name}, one", lambda thing: call(T, C, "one", (), thing, thing), errors.NoWay),
            (f"{name}, other", lambda thing: call(T, C, "onto", (0,), (0,), thing), errors.NoWay),
        ]
    return [
        *calls_of("surely", surely), *calls_of("paper", paper), *calls_of("parting", parting),
        *calls_of("is_paper", lambda *things: is_paper(*things, things)),
        *calls_of("is_parting", lambda *things: is_parting(*things, things)),
        *calls_of("enough_so", lambda web, checks, sort, told, one, other: enough_so(web, checks, sort, told))[:3],
    ]


# Each call that names an error for an argument, and the error that is due for what is no number, no tuple.
CALLS = [
    ("Web, places", lambda thing: Web(thing, ()), errors.BadWeb),
    ("Web, arrows", lambda thing: Web(4, thing), errors.BadWeb),
    ("Web, an arrow", lambda thing: Web(4, ((0, 1), thing)), errors.BadWeb),
    ("Web, a begin", lambda thing: Web(4, ((thing, 1),)), errors.BadWeb),
    ("Web, an end", lambda thing: Web(4, ((0, thing),)), errors.BadWeb),
    ("ends", lambda thing: ends(T, thing), errors.NoWay),
    ("passed", lambda thing: passed(T, thing), errors.NoWay),
    ("passed, an arrow", lambda thing: passed(T, (0, thing)), errors.NoWay),
    ("reached", lambda thing: reached(T, thing), errors.NoPlace),
    ("reaching", lambda thing: reaching(T, thing), errors.NoPlace),
    ("between, u", lambda thing: between(T, thing, 3), errors.NoPlace),
    ("between, v", lambda thing: between(T, 0, thing), errors.NoPlace),
    ("ways_many, u", lambda thing: ways_many(T, thing, 3), errors.NoPlace),
    ("ways_many, v", lambda thing: ways_many(T, 0, thing), errors.NoPlace),
    ("ways, u", lambda thing: ways(T, thing, 3), errors.NoPlace),
    ("ways, v", lambda thing: ways(T, 0, thing), errors.NoPlace),
    ("way_at, u", lambda thing: way_at(T, thing, 3, 0), errors.NoPlace),
    ("way_at, v", lambda thing: way_at(T, 0, thing, 0), errors.NoPlace),
    ("way_at, number", lambda thing: way_at(T, 0, 3, thing), errors.NoNumber),
    ("way_number", lambda thing: way_number(T, thing), errors.NoWay),
    ("numbered", lambda thing: numbered(T, thing), errors.NoOrder),
    ("numbered, a place", lambda thing: numbered(T, (0, 1, 2, thing)), errors.NoOrder),
    ("with_arrow, u", lambda thing: with_arrow(T, thing, 3), errors.NoPlace),
    ("with_arrow, v", lambda thing: with_arrow(T, 0, thing), errors.NoPlace),
    ("without_arrow", lambda thing: without_arrow(T, thing), errors.NoArrow),
    ("cube", lambda thing: cube(thing), errors.NoNumber),
    ("led, world", lambda thing: led(T, thing, (0,), 0), errors.NoWorld),
    ("led, sizes", lambda thing: led(T, (thing, ONE_EACH[1]), (0,), 0), errors.NoWorld),
    ("led, tables", lambda thing: led(T, (ONE_EACH[0], thing), (0,), 0), errors.NoWorld),
    ("led, a table", lambda thing: led(T, (ONE_EACH[0], ((0,), (0,), (0,), (0,), thing)), (0,), 0), errors.NoWorld),
    ("led, way", lambda thing: led(T, ONE_EACH, thing, 0), errors.NoWay),
    ("led, thing", lambda thing: led(T, ONE_EACH, (0,), thing), errors.NoThing),
    ("parted_thing, world", lambda thing: parted_thing(T, thing, (0, 2), (1, 3)), errors.NoWorld),
    ("parted_thing, one", lambda thing: parted_thing(T, ONE_EACH, thing, (1, 3)), errors.NoWay),
    ("parted_thing, other", lambda thing: parted_thing(T, ONE_EACH, (0, 2), thing), errors.NoWay),
    ("failed, world", lambda thing: failed(T, thing, C), errors.NoWorld),
    ("failed, checks", lambda thing: failed(T, ONE_EACH, thing), errors.NoChecks),
    ("parted_pairs", lambda thing: parted_pairs(T, thing), errors.NoWorld),
    ("parted_ways, world", lambda thing: parted_ways(T, thing, 0, 3), errors.NoWorld),
    ("parted_ways, u", lambda thing: parted_ways(T, ONE_EACH, thing, 3), errors.NoPlace),
    ("parted_ways, v", lambda thing: parted_ways(T, ONE_EACH, 0, thing), errors.NoPlace),
    ("is_parted_ways, world", lambda thing: is_parted_ways(T, thing, 0, 3, None), errors.NoWorld),
    ("is_parted_ways, u", lambda thing: is_parted_ways(T, ONE_EACH, thing, 3, None), errors.NoPlace),
    ("is_parted_ways, v", lambda thing: is_parted_ways(T, ONE_EACH, 0, thing, None), errors.NoPlace),
    ("clusters, u", lambda thing: clusters(T, thing, 3), errors.NoPlace),
    ("clusters, v", lambda thing: clusters(T, 0, thing), errors.NoPlace),
    ("cluster_of", lambda thing: cluster_of(T, thing), errors.NoWay),
    ("cluster_sizes, u", lambda thing: cluster_sizes(T, thing, 3), errors.NoPlace),
    ("cluster_sizes, v", lambda thing: cluster_sizes(T, 0, thing), errors.NoPlace),
    ("groups, checks", lambda thing: groups(T, thing, 0, 3), errors.NoChecks),
    ("groups, u", lambda thing: groups(T, C, thing, 3), errors.NoPlace),
    ("groups, v", lambda thing: groups(T, C, 0, thing), errors.NoPlace),
    ("holes, checks", lambda thing: holes(T, thing), errors.NoChecks),
    ("holes, a check", lambda thing: holes(T, [C[0], thing]), errors.NoChecks),
    ("holes, a way", lambda thing: holes(T, (C[0], ((2,), thing))), errors.NoChecks),
    ("enough, checks", lambda thing: enough(T, thing), errors.NoChecks),
    ("trees, checks", lambda thing: trees(T, thing), errors.NoChecks),
    ("is_trees, checks", lambda thing: is_trees(T, thing, thing), errors.NoChecks),
    ("small_world, checks", lambda thing: small_world(T, thing), errors.NoChecks),
    ("is_small_world, checks", lambda thing: is_small_world(T, thing, thing), errors.NoChecks),
    ("lacking, checks", lambda thing: lacking(T, thing), errors.NoChecks),
    ("further, checks", lambda thing: further(T, thing), errors.NoChecks),
    ("is_further, checks", lambda thing: is_further(T, thing, thing), errors.NoChecks),
    ("spare, checks", lambda thing: spare(T, thing), errors.NoChecks),
    ("tidied, checks", lambda thing: tidied(T, thing), errors.NoChecks),
    ("exchanged, checks", lambda thing: exchanged(T, thing, (0, 2), thing), errors.NoChecks),
    ("exchanged, way", lambda thing: exchanged(T, C, thing, thing), errors.NoWay),
    ("exchanged, thing", lambda thing: exchanged(T, C, (0, 4, 3), thing), errors.NoExchange),
    ("exchanged, a check's number", lambda thing: exchanged(T, C, (0, 4, 3), (thing, 0, False)), errors.NoExchange),
    ("exchanged, an index", lambda thing: exchanged(T, C, (0, 4, 3), (0, thing, False)), errors.NoExchange),
    ("follows, checks", lambda thing: follows(T, thing, (0, 2), (1, 3)), errors.NoChecks),
    ("follows, one", lambda thing: follows(T, C, thing, (1, 3)), errors.NoWay),
    ("follows, other", lambda thing: follows(T, C, (0, 2), thing), errors.NoWay),
    ("chain, checks", lambda thing: chain(T, thing, (0, 2), (1, 3)), errors.NoChecks),
    ("chain, one", lambda thing: chain(T, C, thing, (1, 3)), errors.NoWay),
    ("chain, other", lambda thing: chain(T, C, (0, 2), thing), errors.NoWay),
    ("is_chain, checks", lambda thing: is_chain(T, thing, (0, 2), (1, 3), thing), errors.NoChecks),
    ("is_chain, one", lambda thing: is_chain(T, C, thing, (1, 3), thing), errors.NoWay),
    ("is_chain, other", lambda thing: is_chain(T, C, (0, 2), thing, thing), errors.NoWay),
    ("classes, checks", lambda thing: classes(T, thing, 0, 3), errors.NoChecks),
    ("classes, u", lambda thing: classes(T, C, thing, 3), errors.NoPlace),
    ("classes, v", lambda thing: classes(T, C, 0, thing), errors.NoPlace),
    ("world_of_all, checks", lambda thing: world_of_all(T, thing), errors.NoChecks),
    ("is_world_of_all, checks", lambda thing: is_world_of_all(T, thing, thing), errors.NoChecks),
    ("beyond, checks", lambda thing: beyond(T, thing, C), errors.NoChecks),
    ("beyond, more, checks", lambda thing: beyond(T, C, thing), errors.NoChecks),
    ("least_at", lambda thing: least_at(T, thing), errors.NoNumber),
    ("least_index", lambda thing: least_index(T, thing), errors.NoList),
    ("least_index, a check", lambda thing: least_index(T, (C[0], thing)), errors.NoList),
    ("cheapest, stock, checks", lambda thing: cheapest(T, thing, ()), errors.NoChecks),
    ("cheapest, prices", lambda thing: cheapest(T, C, thing), errors.NoPrices),
    ("road, one", lambda thing: road(T, thing, tuple(C)), errors.NoList),
    ("road, other", lambda thing: road(T, tuple(C), thing), errors.NoList),
    ("is_road, one", lambda thing: is_road(T, thing, tuple(C), thing), errors.NoList),
    ("is_road, other", lambda thing: is_road(T, tuple(C), thing, thing), errors.NoList),
    *told_calls(),
    ("root_tree", lambda thing: root_tree(T, thing), errors.NoPlace),
    ("root_checks", lambda thing: root_checks(T, thing), errors.NoPlace),
    ("rank, checks", lambda thing: rank(T, thing), errors.NoChecks),
    ("numbers, checks", lambda thing: numbers(T, thing), errors.NoChecks),
    ("is_numbers, checks", lambda thing: is_numbers(T, thing, thing), errors.NoChecks),
    ("suspects, checks", lambda thing: suspects(T, thing, ()), errors.NoChecks),
    ("suspects, a failed check", lambda thing: suspects(T, C, (0, thing)), errors.NoFailed),
    ("bar, checks", lambda thing: bar(T, thing, (), 0), errors.NoChecks),
    ("bar, a failed check", lambda thing: bar(T, C, (0, thing), 0), errors.NoFailed),
    ("bar, arrow", lambda thing: bar(T, C, (0,), thing), errors.NoArrow),
    ("is_bar, checks", lambda thing: is_bar(T, thing, (), 0, thing), errors.NoChecks),
    ("is_bar, a failed check", lambda thing: is_bar(T, C, (0, thing), 0, thing), errors.NoFailed),
    ("is_bar, arrow", lambda thing: is_bar(T, C, (0,), thing, thing), errors.NoArrow),
    ("spoiled, checks", lambda thing: spoiled(T, thing, (), 0), errors.NoChecks),
    ("spoiled, a failed check", lambda thing: spoiled(T, C, (0, thing), 0), errors.NoFailed),
    ("spoiled, arrow", lambda thing: spoiled(T, C, (0,), thing), errors.NoArrow),
    ("is_spoiled, checks", lambda thing: is_spoiled(T, thing, (), 0, thing), errors.NoChecks),
    ("is_spoiled, a failed check", lambda thing: is_spoiled(T, C, (0, thing), 0, thing), errors.NoFailed),
    ("is_spoiled, arrow", lambda thing: is_spoiled(T, C, (0,), thing, thing), errors.NoArrow),
    ("unseen, checks", lambda thing: unseen(T, thing), errors.NoChecks),
    ("next_check, checks", lambda thing: next_check(T, thing, (), []), errors.NoChecks),
    ("next_check, a failed check", lambda thing: next_check(T, C, (0, thing), []), errors.NoFailed),
    ("next_check, stock, checks", lambda thing: next_check(T, C, (0,), thing), errors.NoChecks),
    ("next_check, a check of the stock", lambda thing: next_check(T, C, (0,), [thing]), errors.NoChecks),
    ("Ledger, arrow, u", lambda thing: Ledger(T).arrow(thing, 3), errors.NoPlace),
    ("Ledger, arrow, v", lambda thing: Ledger(T).arrow(0, thing), errors.NoPlace),
    ("Ledger, strike", lambda thing: Ledger(T).strike(thing), errors.NoArrow),
    ("Ledger, renewed", lambda thing: Ledger(T).renewed(thing), errors.NoArrow),
    ("Ledger, passed", lambda thing: Ledger(T).passed(thing), errors.NoCheck),
    ("Ledger, passed, a way", lambda thing: Ledger(T).passed((thing, (1, 3))), errors.NoCheck),
    ("Ledger, failed", lambda thing: Ledger(T).failed(thing), errors.NoCheck),
    ("Ledger, failed, a way", lambda thing: Ledger(T).failed(((0, 2), thing)), errors.NoCheck),
    ("Ledger, known, one", lambda thing: Ledger(T).known(thing, (1, 3)), errors.NoWay),
    ("Ledger, known, other", lambda thing: Ledger(T).known((0, 2), thing), errors.NoWay),
    ("wrong_judge, checks", lambda thing: wrong_judge(T, thing, None), errors.NoChecks),
    ("wrong_judge, no answer", lambda thing: wrong_judge(T, [], lambda one, other: [thing]), errors.NoAnswer),
    ("checks_text, checks", lambda thing: checks_text(T, thing), errors.NoChecks),
    ("read_web", lambda thing: read_web(thing), errors.BadText),
    ("read_checks", lambda thing: read_checks(T, thing if thing != "" else None), errors.BadText),
    ("restored", lambda thing: restored(T, None if isinstance(thing, str) else thing), errors.BadText),
    ("Desk, tell", lambda thing: Desk().tell(thing), errors.NoLine),
]
# Each function that judges any object, where none of those below is what it looks for.
JUDGES = [
    lambda thing: is_way(T, thing),
    lambda thing: is_check(T, thing),
    lambda thing: is_check(T, (thing, thing)),
    lambda thing: is_world(T, thing),
    lambda thing: is_world(T, (thing, thing)),
    lambda thing: is_parted_ways(T, ONE_EACH, 0, 3, thing),
    lambda thing: is_trees(T, C, thing),
    lambda thing: is_trees(T, C, {(0, 2): thing, (1, 3): thing}),
    lambda thing: is_small_world(T, C, thing),
    lambda thing: is_further(T, C[:1], thing),
    lambda thing: is_further(T, C[:1], [thing]),
    lambda thing: is_chain(T, C, (0, 2), (1, 3), thing),
    lambda thing: is_chain(T, C, (0, 4, 3), (1, 3), (thing,)),
    lambda thing: is_chain(T, C, (0, 4, 3), (0, 2), ((thing, 2, True),)),
    lambda thing: is_chain(T, C, (0, 4, 3), (1, 3), ((0, thing, thing),)),
    lambda thing: is_world_of_all(T, C, thing),
    lambda thing: is_world_of_all(T, C, (thing, thing)),
    lambda thing: is_least(T, thing),
    lambda thing: is_least(T, (C[0], thing)),
    lambda thing: is_road(T, tuple(C), tuple(C), (thing,)),
    lambda thing: is_road(T, tuple(C), tuple(C), ((thing, thing),)),
    lambda thing: is_paper(T, C, "one", (), (0,), (0,), thing),
    lambda thing: is_paper(T, C, "one", (), (0,), (0,), (thing,)),
    lambda thing: is_paper(T, C, "one", (), (0,), (0,), (((0,), (0,), thing),)),
    lambda thing: is_paper(T, C, "one", (), (0,), (0,), (((0,), (0,), (thing, 0)),)),
    lambda thing: is_parting(T, [], "onto", (), (0, 2), (1, 3), thing),
    lambda thing: is_parting(T, [], "onto", (), (0, 2), (1, 3), (thing, thing)),
    lambda thing: is_numbers(T, C[:1], thing),
    lambda thing: is_bar(T, C, (0,), 2, thing),
    lambda thing: is_bar(T, C, (0,), 2, (thing, 0)),
    lambda thing: is_bar(T, C, (1,), 2, ("beside", thing)),
    lambda thing: is_bar(T, [((0, 2), (1, 3)), *C], (0,), 0, ("within", 0, (thing,))),
    lambda thing: is_spoiled(T, C, (0,), 0, thing),
    lambda thing: is_spoiled(T, C, (0,), 0, (ONE_EACH, thing)),
    lambda thing: is_spoiled(T, C, (0,), 0, (thing, (0,))),
]
DEEP = [nested(list, 40), nested(tuple, 40), nested(dict, 40), [nested(tuple, 39)] * 200, (nested(list, 38), [T] * 50)]


def long_row(doublings):
    """A row of 60 * 2 ** doublings places, far beyond what can be constructed at once."""
    web = row_web(60)
    for _ in range(doublings):
        half = web.places
        web = with_arrow(beside(web, web), half - 1, half)
    return web


def fits(name, thing):
    """Whether a thing is what is looked for after all: no arrows, or no checks."""
    empty = isinstance(thing, (list, tuple)) and len(thing) == 0
    return (name == "Web, arrows" and thing == ()) or (name.endswith(", checks") and empty)


class AnyObject(unittest.TestCase):
    def test_each_call_raises_its_error_and_no_other(self):
        for name, call, error in CALLS:
            for thing in [*NO_NUMBERS_NO_TUPLES, *ODD_TUPLES, *DEEP]:
                if fits(name, thing):
                    continue
                with self.assertRaises(errors.CheckError, msg=name) as caught:
                    call(thing)
                self.assertIs(type(caught.exception), error, name)

    def test_each_call_bars_each_number_that_is_out_of_bounds(self):
        for name, call, error in CALLS:
            for thing in (-1, -10 ** 59, 10 ** 60 - 1):
                with self.assertRaises(error, msg=name):
                    call(thing)

    def test_any_object_is_judged_by_a_flag(self):
        for judge in JUDGES:
            for thing in [*NO_NUMBERS_NO_TUPLES, *ODD_TUPLES, *DEEP, 0, 1, -1, 10 ** 59]:
                self.assertIs(judge(thing), False)
        for told in (is_way(T, (0, 2)), is_check(T, C[0]), is_world(T, ONE_EACH), is_further(T, C[:1], C[1:]),
                     is_trees(T, C, trees(T, C)), is_small_world(T, [], small_world(T, [])), is_least(T, tuple(C)),
                     is_chain(T, C, (0, 2), (1, 3), chain(T, C, (0, 2), (1, 3))),
                     is_world_of_all(T, C, world_of_all(T, C)), is_road(T, tuple(C), tuple(C), ()),
                     is_paper(T, C, "one", (), (0, 2), (1, 3), paper(T, C, "one", (), (0, 2), (1, 3))),
                     is_parting(T, [], "one", (), (0, 2), (1, 3), parting(T, [], "one", (), (0, 2), (1, 3))),
                     is_numbers(T, C[:1], numbers(T, C[:1])), is_bar(T, C, (0,), 2, bar(T, C, (0,), 2)),
                     is_spoiled(T, C, (0,), 0, spoiled(T, C, (0,), 0))):
            self.assertIs(told, True)

    def test_wrong_things_are_not_changed(self):
        for _, call, _ in CALLS:
            thing = [[0, 1], {"a": [1, 2]}, ((0, 1), [2])]
            before = copy.deepcopy(thing)
            with self.assertRaises(errors.CheckError):
                call(thing)
            self.assertEqual(thing, before)


class NothingChanges(unittest.TestCase):
    def test_equal_calls_give_equal_answers(self):
        for _ in range(2):
            self.assertEqual(ways(T, 0, 3), [(0, 2), (0, 4, 3), (1, 3)])
            self.assertEqual(reached(T, 1), (1, 2, 3))
            self.assertEqual(floor(T, T), floor(Web(4, T.arrows), T))

    def test_webs_stay_as_they_were_behind_errors(self):
        web = Web(4, T.arrows)
        for call in (lambda: with_arrow(web, 3, 0), lambda: without_arrow(web, 5), lambda: numbered(web, (0,)),
                     lambda: ways(web, 0, 4), lambda: way_at(web, 0, 3, 3), lambda: passed(web, (0, 3))):
            with self.assertRaises(errors.CheckError):
                call()
            self.assertEqual(web, T)
            self.assertEqual((web.places, web.arrows), (4, T.arrows))


class NoRecursion(unittest.TestCase):
    def test_ways_of_thousands_of_arrows(self):
        web = long_row(6)
        self.assertEqual(web.places, 3840)
        self.assertEqual(len(web.arrows), 3839)
        self.assertEqual(reached(web, 0), tuple(range(3840)))
        self.assertEqual(len(between(web, 0, 3839)), 3838)
        self.assertEqual(ways_many(web, 0, 3839), 1)
        way = ways(web, 0, 3839)[0]
        self.assertEqual(passed(web, way), tuple(range(3840)))
        self.assertEqual(way_at(web, 0, 3839, 0), way)
        self.assertEqual(way_number(web, way), 0)
        self.assertIs(is_way(web, way), True)
        with self.assertRaises(errors.NoArrow):
            with_arrow(web, 3839, 0)
        self.assertEqual(ways_many(mirrored(web), 3839, 0), 1)
        self.assertTrue(web == long_row(6))

    def test_clusters_and_worlds_of_thousands_of_arrows(self):
        web = long_row(6)
        self.assertEqual(clusters(web, 0, 3839), [("places", tuple(range(1, 3839)))])
        self.assertEqual(cluster_sizes(web, 0, 3839), [1])
        way = way_at(web, 0, 3839, 0)
        self.assertEqual(cluster_of(web, way), 0)
        self.assertIs(is_check(web, (way, way)), False)
        world = ((2,) * 3840, ((1, 0),) * 3839)
        self.assertEqual(led(web, world, way, 0), 1)
        self.assertIsNone(parted_ways(web, world, 0, 3839))
        twice = with_arrow(web, 3838, 3839)
        parting = (world[0], (*world[1], (1, 1)))
        found = parted_ways(twice, parting, 0, 3839)
        self.assertEqual(found, (way, (*way[:-1], 3839)))
        self.assertEqual(failed(twice, parting, [found]), (0,))
        self.assertEqual(groups(twice, [found], 3838, 3839), [(0,), (1,)])
        self.assertEqual(chain(twice, [found], found[1], found[0]), ((0, 0, True),))
        last = (way[-1:], (3839,))
        self.assertEqual(exchanged(twice, [last], way, (0, 3838, False)), found[1])
        self.assertEqual(chain(twice, [last], *found), ((0, 3838, False),))
        self.assertEqual(classes(twice, [last], 0, 3839), [found])
        self.assertEqual(beyond(twice, [], [found]), (0,))
        self.assertEqual(suspects(twice, [found, last], (0,)), ())
        self.assertEqual(suspects(twice, [found, last], (0, 1)), (way[-1], 3839))
        self.assertIs(is_spoiled(twice, [found], (0,), 3839, spoiled(twice, [found], (0,), 3839)), True)
        self.assertEqual(unseen(twice, [found]), tuple(arrow for arrow in range(3839) if arrow != way[-1]))

    def test_roots_and_ledgers_of_thousands_of_arrows(self):
        web = long_row(6)
        self.assertEqual(root_tree(web, 0), tuple(range(3839)))
        self.assertEqual(root_checks(web, 0), [])
        self.assertEqual(root_checks(with_arrow(web, 0, 3839), 0), [(way_at(web, 0, 3839, 0), (3839,))])
        with self.assertRaises(errors.NoRoot):
            root_tree(web, 1)
        ledger = Ledger(web)
        last = way_at(web, 0, 3839, 0)[-1]
        self.assertEqual(ledger.arrow(3838, 3839), 3839)
        ledger.failed(((last,), (3839,)))
        self.assertEqual(ledger.blamed(), (last, 3839))
        self.assertEqual(ledger.renewed(last), (0,))
        self.assertEqual(ledger.due(), [((last,), (3839,))])
        ledger.strike(0)
        self.assertEqual(ledger.checks(), ((((last - 1,), (3838,)), "void"),))
        twin, lines = restored(web, log(ledger))
        self.assertEqual((lines, twin.checks(), twin.web()), (4, ledger.checks(), ledger.web()))
        self.assertEqual(len(web_text(web).split("\n")), 3841)
        self.assertIsNone(wrong_judge(long_row(3), [], None))
        way = way_at(web, 0, 3839, 0)
        text = checks_text(with_arrow(web, 0, 3839), [(way, (3839,))])
        self.assertEqual(read_checks(with_arrow(web, 0, 3839), text), [(way, (3839,))])

    def test_enough_of_hundreds_of_arrows(self):
        web = double_row(59)
        for _ in range(2):
            half = web.places
            web = with_arrow(beside(web, web), half - 1, half)
        self.assertEqual((web.places, len(web.arrows)), (240, 475))
        self.assertEqual(lacking(web, []), 236)
        checks = further(web, [])
        self.assertIs(enough(web, checks), True)
        self.assertEqual(tidied(web, checks), tuple(range(236)))
        self.assertEqual(checks_many(web), checks_many(mirrored(web)))
        self.assertEqual(least_number(web), 236)
        self.assertEqual(least_many(web), 1)
        self.assertEqual(least_index(web, least_list(web)), 0)
        self.assertEqual(least_at(web, 0), tuple(sorted(checks)))
        world = small_world(web, checks[1:])
        self.assertIs(is_small_world(web, checks[1:], world), True)
        self.assertEqual(parted_pairs(web, world), [(0, 1)])
        self.assertIs(is_numbers(web, checks, (0,) * 474 + (1,)), False)
        self.assertIs(is_numbers(web, checks[:-1], (0,) * 474 + (1,)), False)
        self.assertEqual(len(never_seen(web)), 3)
        ledger = Ledger(web)
        ledger.passed(checks[0])
        self.assertEqual((ledger.lacking(), len(ledger.due())), (235, 235))


if __name__ == "__main__":
    unittest.main()
