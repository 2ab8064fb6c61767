"""Part 0 to part 8 over the whole program: what 0.4 says of each function, and the facts between the parts."""

import ast
import copy
import importlib
import itertools
import random
import unittest

from enoughchecks import errors
from enoughchecks.chains import chain, classes, follows, is_chain
from enoughchecks.changes import cube, floor, mirrored
from enoughchecks.checking import checks_many, is_check
from enoughchecks.clusters import cluster_of, cluster_sizes, clusters, groups, holes
from enoughchecks.counting import least_at, least_index, least_many
from enoughchecks.desk import Desk
from enoughchecks.enough import enough, further, is_further, is_small_world, is_trees, lacking, small_world, spare
from enoughchecks.enough import tidied, trees
from enoughchecks.judges import wrong_judge
from enoughchecks.leasts import is_least, least_list, least_number, least_pairs
from enoughchecks.ledgers import Ledger
from enoughchecks.logs import log, restored
from enoughchecks.papers import enough_so, paper, surely
from enoughchecks.partings import parting
from enoughchecks.reading import read_checks, read_web
from enoughchecks.roads import road
from enoughchecks.roots import root_checks, root_tree
from enoughchecks.stocks import cheapest
from enoughchecks.sums import full_rank, numbers, rank
from enoughchecks.suspects import bar, never_seen, next_check, spoiled, suspects, unseen
from enoughchecks.texts import checks_text, web_text
from enoughchecks.ways import way_at, way_number, ways, ways_many
from enoughchecks.webs import Web, between, ends, passed, reached, reaching
from enoughchecks.wholes import beyond, is_world_of_all, world_of_all
from enoughchecks.worlds import failed, parted_pairs, parted_thing, parted_ways
from tests.support import C, H, T, plain_checks, plain_homes, some_checks, some_told, some_webs, ways_of
from tests.test_interface import CLASSES, FUNCTIONS, PACKAGE
from tests.test_roots import plain_roots
from tests.test_suspects import failed_by_chance

LINES = (((0, 4), (1,), ("check", 0)), ((1,), (0, 4), ("turn", 0)))
WORLD = ((1, 1, 2, 2), ((0,), (1,), (0,), (0, 1), (0,)))
SMALL = ((1, 1, 2, 1), ((0,), (1,), (0,), (0, 0), (0,)))
BOTH = ("one", "onto")


def done_ledger():
    ledger = Ledger(T)
    ledger.passed(C[0])
    ledger.failed(C[1])
    ledger.arrow(0, 3)
    ledger.renewed(0)
    return ledger


# Arguments for each function of the interface, and for some of them such as make them tell None or nothing.
ARGUMENTS = {
    "is_way": [(T, (0, 4)), (T, [0])], "ends": [(T, (0, 4))], "passed": [(T, (0, 4, 3))], "reached": [(T, 1)],
    "reaching": [(T, 2)], "between": [(T, 0, 3)], "ways_many": [(T, 0, 3)], "way_number": [(T, (1, 3))],
    "ways": [(T, 0, 3), (T, 3, 0)], "way_at": [(T, 0, 3, 1)], "mirrored": [(T,)], "numbered": [(T, (3, 2, 1, 0))],
    "with_arrow": [(T, 0, 3)], "without_arrow": [(T, 2)], "beside": [(T, H)], "floor": [(H, T)], "cube": [(3,)],
    "is_check": [(T, C[0]), (T, [C[0]])], "checks_many": [(T,)], "is_world": [(T, WORLD), (T, [WORLD])],
    "is_parted_ways": [(T, WORLD, 0, 2, C[0]), (T, WORLD, 0, 2, [C[0]])], "led": [(T, WORLD, (0, 4), 0)],
    "parted_thing": [(T, WORLD, (0, 4), (1,)), (T, WORLD, (1,), (1,))],
    "failed": [(T, WORLD, C), (T, WORLD, tuple(C))], "parted_pairs": [(T, WORLD)],
    "parted_ways": [(T, WORLD, 0, 2), (T, WORLD, 1, 2)], "clusters": [(T, 0, 2), (T, 0, 3), (T, 3, 0)],
    "cluster_sizes": [(T, 0, 2)], "groups": [(T, C, 0, 2), (T, [], 0, 2)], "holes": [(T, C[1:]), (T, C)],
    "cluster_of": [(T, (0, 4))], "enough": [(T, C), (T, C[1:])],
    "is_trees": [(T, C, {(0, 2): (0,), (1, 3): (1,)}), (T, C, {})],
    "is_small_world": [(T, C[1:], SMALL), (T, C[1:], WORLD)], "is_further": [(T, C[1:], C[:1]), (T, C, C)],
    "trees": [(T, C), (T, [])], "small_world": [(T, C[1:]), (T, C)], "lacking": [(T, C[1:])],
    "further": [(T, C[1:]), (T, []), (T, C)], "spare": [(T, [*C, ((0, 2), (1, 3))])],
    "tidied": [(T, [*C, ((0, 2), (1, 3))])], "exchanged": [(T, C, (0, 4, 3), (0, 0, False))],
    "follows": [(T, C, (0, 2), (1, 3)), (T, [], (0, 2), (1, 3))],
    "is_chain": [(T, C, (0, 2), (1, 3), ((1, 1, False), (0, 0, False))), (T, C, (0, 2), (1, 3), [])],
    "chain": [(T, C, (0, 2), (1, 3)), (T, [], (0, 2), (1, 3))], "classes": [(T, C[:1], 0, 3), (T, C, 3, 0)],
    "world_of_all": [(T, C[:1])], "is_world_of_all": [(T, C, ((1,) * 4, ((0,),) * 5)), (T, C, WORLD)],
    "beyond": [(T, C[:1], [((0, 2), (1, 3)), C[0]])], "least_number": [(T,)], "is_least": [(T, tuple(C)), (T, C)],
    "least_pairs": [(T,), (Web(1, ()),)], "least_list": [(T,)], "least_many": [(H,)],
    "least_index": [(T, tuple(C))], "least_at": [(H, 2)], "cheapest": [(T, C, (5, 6)), (T, C[:1], (5,))],
    "road": [(H, least_at(H, 0), least_at(H, 2))],
    "is_road": [(H, least_at(H, 0), least_at(H, 0), ()), (T, tuple(C), tuple(C), [])],
    "surely": [(T, C, "one", (0,), (0, 2), (1, 3)), (T, [], "onto", (), (0,), (0,))],
    "is_paper": [(T, C, "one", (), (1,), (0, 4), LINES), (T, C, "one", (), (1,), (0, 4), list(LINES))],
    "enough_so": [(T, C, "one", ()), (T, [], "onto", (0,))],
    "paper": [(T, C, "onto", (0,), (0, 2), (1, 3)), (T, [], "onto", (0,), (0, 2), (1, 3))],
    "parting": [(T, [], "onto", (0,), (0, 2), (1, 3)), (T, [], "one", (0,), (0, 2), (1, 3)),
                (T, C, "one", (), (0,), (0,))],
    "is_parting": [(T, [], "one", (), (0, 4), (1,), WORLD), (T, [], "one", (), (0, 4), (1,), [WORLD])],
    "root_tree": [(T, 0)], "root_checks": [(T, 0), (Web(1, ()), 0)], "rank": [(T, C)], "full_rank": [(T,)],
    "numbers": [(T, C[1:]), (T, C)], "is_numbers": [(T, C[:1], (0, 0, 0, 1, 0)), (T, C, [0])],
    "suspects": [(T, C, (0,))], "unseen": [(T, C[:1])], "never_seen": [(T,)],
    "bar": [(T, C, (0,), 2), (T, C, (0,), 0)],
    "is_bar": [(T, C, (0,), 2, ("beside", 0)), (T, C, (0,), 2, ["beside", 0])],
    "spoiled": [(T, C, (0,), 0), (T, C, (0,), 2)],
    "is_spoiled": [(T, C, (), 0, (((1,) * 4, ((0,),) * 5), (0,))), (T, C, (), 0, (WORLD, (0,)))],
    "next_check": [(T, C[:1], (0,), C[1:]), (T, C, (0,), [])], "log": [(done_ledger(),), (Ledger(T),)],
    "restored": [(T, "passed 0 4 = 1\nx"), (T, "")], "web_text": [(T,)], "checks_text": [(T, C)],
    "wrong_judge": [(T, C, lambda one, other: False), (T, [], lambda one, other: False)],
    "read_web": [("places 2\n0 1\n",)], "read_checks": [(T, "0 4 = 1\n"), (T, "")],
}
# What functions of the interface return, besides None where the document says so.
KINDS = {
    "is_": bool, "follows": bool, "enough": bool, "surely": bool, "enough_so": bool,
    **dict.fromkeys(["ends", "passed", "reached", "reaching", "between", "way_at", "failed", "parted_ways", "spare",
                     "tidied", "exchanged", "chain", "world_of_all", "small_world", "beyond", "least_list", "least_at",
                     "cheapest", "road", "paper", "parting", "root_tree", "numbers", "suspects", "unseen", "never_seen",
                     "bar", "spoiled", "next_check", "restored", "wrong_judge"], tuple),
    **dict.fromkeys(["ways", "parted_pairs", "clusters", "cluster_sizes", "groups", "holes", "further", "classes",
                     "least_pairs", "root_checks", "read_checks"], list),
    **dict.fromkeys(["ways_many", "way_number", "checks_many", "led", "parted_thing", "cluster_of", "lacking",
                     "least_number", "least_many", "least_index", "rank", "full_rank"], int),
    **dict.fromkeys(["mirrored", "numbered", "with_arrow", "without_arrow", "beside", "floor", "cube", "read_web"],
                    Web),
    **dict.fromkeys(["log", "web_text", "checks_text"], str), "trees": dict,
}
MAY_BE_NONE = ["parted_thing", "parted_ways", "trees", "small_world", "chain", "cheapest", "paper", "parting",
               "numbers", "bar", "spoiled", "next_check", "wrong_judge"]


def functions():
    """Each function of the interface with its arguments."""
    for module, names in FUNCTIONS.items():
        for name in names:
            for given in ARGUMENTS[name]:
                yield name, getattr(importlib.import_module(f"enoughchecks.{module}"), name), given


def plain(thing):
    """A thing told so that what is in it can be compared, whatever it is."""
    if isinstance(thing, Web):
        return ("Web", thing.places, thing.arrows)
    if isinstance(thing, Ledger):
        return ("Ledger", plain(thing.web()), thing.checks(), log(thing))
    if isinstance(thing, (list, tuple)):
        return (type(thing).__name__, [plain(item) for item in thing])
    if isinstance(thing, dict):
        return ("dict", sorted((key, plain(item)) for key, item in thing.items()))
    return (type(thing).__name__, thing)


def lists_in(thing):
    """All lists and dicts that stand in a thing, however deep."""
    found = [thing] if isinstance(thing, (list, dict)) else []
    if isinstance(thing, dict):
        thing = list(thing.values())
    if isinstance(thing, (list, tuple)):
        for item in thing:
            found += lists_in(item)
    return found


class EachFunction(unittest.TestCase):
    def test_all_are_there(self):
        names = [name for module in FUNCTIONS.values() for name in module]
        self.assertEqual(sorted(names), sorted(ARGUMENTS))
        self.assertEqual(len(names), 86)

    def test_kinds_of_values(self):
        told = {}
        for name, function, given in functions():
            answer = function(*given)
            kind = KINDS["is_" if name.startswith("is_") else name]
            if answer is None:
                self.assertIn(name, MAY_BE_NONE)
            else:
                self.assertIs(type(answer), kind, name)
            told.setdefault(name, []).append(answer)
        for name in MAY_BE_NONE:
            self.assertIn(None, told[name], name)
        for name, answers in told.items():
            if name.startswith("is_"):
                self.assertEqual(sorted(answers), [False, True], name)

    def test_equal_calls_give_equal_answers_and_arguments_stay(self):
        for name, function, given in functions():
            before = plain(given)
            first = function(*given)
            self.assertEqual(plain(given), before, name)
            twins = [item if callable(item) or isinstance(item, Ledger) else copy.deepcopy(item) for item in given]
            self.assertEqual(plain(function(*twins)), plain(first), name)
            self.assertEqual(plain(function(*given)), plain(first), name)

    def test_each_list_and_each_dict_is_new(self):
        for name, function, given in functions():
            expected, before = plain(function(*given)), plain(given)
            answer = function(*given)
            here = {id(item) for item in lists_in(function(*given))}
            for item in lists_in(answer):
                self.assertNotIn(id(item), here)
                item.clear()
            self.assertEqual(plain(given), before, name)
            self.assertEqual(plain(function(*given)), expected, name)

    def test_checks_may_be_a_list_or_a_tuple(self):
        for name, function, given in functions():
            module = next(module for module, names in FUNCTIONS.items() if name in names)
            for at, argument in enumerate(FUNCTIONS[module][name]):
                if argument in ("checks", "more", "stock"):
                    for kind in (list, tuple):
                        twins = [*given[:at], kind(given[at]), *given[at + 1:]]
                        self.assertEqual(plain(function(*twins)), plain(function(*given)), name)

    def test_objects_of_classes_are_equal_to_nothing_else(self):
        things = [T, Ledger(T), Desk(), errors.NoWay(), errors.CheckError(), errors.TooMany(4), 4, "T", None, (), [],
                  {}, (4, T.arrows)]
        for one, other in itertools.permutations(things, 2):
            self.assertFalse(one == other)
            self.assertTrue(one != other)
        self.assertTrue(Web(4, T.arrows) == T)
        self.assertFalse(Web(5, T.arrows) == T)
        self.assertFalse(Web(4, T.arrows[:4]) == T)

    def test_listed_methods_are_defined_in_their_class(self):
        for module, classes_of in CLASSES.items():
            for node in ast.parse((PACKAGE / f"{module}.py").read_text()).body:
                if isinstance(node, ast.ClassDef):
                    own = {part.name for part in node.body if isinstance(part, ast.FunctionDef)}
                    self.assertLessEqual(set(classes_of[node.name]), own)


def cases(seed, many=60, most_places=5, most_arrows=8, most=4):
    chooser = random.Random(seed)
    for web in some_webs(many, most_places, most_arrows):
        yield web, some_checks(web, chooser, most), chooser


class FactsBetweenTheParts(unittest.TestCase):
    def test_ways_clusters_and_checks(self):
        for web, checks, _ in cases(151):
            total = 0
            for u in range(web.places):
                for v in range(web.places):
                    told = ways(web, u, v)
                    self.assertEqual(len(told), ways_many(web, u, v))
                    self.assertEqual([way_number(web, way) for way in told], list(range(len(told))))
                    self.assertEqual([way_at(web, u, v, k) for k in range(len(told))], told)
                    self.assertEqual(len(told) > 0, v in reached(web, u) and u != v)
                    self.assertEqual(v in reached(web, u), u in reaching(web, v))
                    self.assertEqual(between(web, u, v), between(mirrored(web), v, u))
                    sizes = [0] * len(clusters(web, u, v))
                    for way in told:
                        self.assertEqual((ends(web, way), passed(web, way)[0]), ((u, v), u))
                        sizes[cluster_of(web, way)] += 1
                    self.assertEqual(sizes, cluster_sizes(web, u, v))
                    self.assertEqual((u, v) in holes(web, checks), len(groups(web, checks, u, v)) > 1)
                    total += len(told) * (len(told) - 1) // 2
            self.assertEqual(checks_many(web), total)

    def test_the_first_fact(self):
        seen = {True: 0, False: 0}
        for web, checks, _ in cases(152, 150):
            told = enough(web, checks)
            seen[told] += 1
            self.assertEqual(holes(web, checks) == [], told)
            self.assertIs(is_trees(web, checks, trees(web, checks)), told)
            self.assertIs(is_small_world(web, checks, small_world(web, checks)), not told)
            self.assertEqual(lacking(web, checks) == 0, told)
            self.assertIs(is_further(web, checks, []), told)
            self.assertIs(is_further(web, checks, further(web, checks)), True)
            self.assertEqual(all(len(classes(web, checks, u, v)) < 2
                                 for u in range(web.places) for v in range(web.places)), told)
            for sort in BOTH:
                self.assertIs(enough_so(web, checks, sort, ()), told)
            if told:
                self.assertEqual(rank(web, checks), full_rank(web))
                self.assertEqual(unseen(web, checks), never_seen(web))
                self.assertEqual(beyond(web, checks, plain_checks(web)), ())
        self.assertGreater(min(seen.values()), 30)

    def test_the_second_fact(self):
        for web, checks, _ in cases(153):
            world = world_of_all(web, checks)
            self.assertIs(is_world_of_all(web, checks, world), True)
            self.assertEqual(failed(web, world, checks), ())
            every = plain_checks(web)
            apart = tuple(k for k, (one, other) in enumerate(every) if not follows(web, checks, one, other))
            self.assertEqual(failed(web, world, every), apart)
            self.assertEqual(beyond(web, checks, every), apart)
            for one, other in every[:15]:
                told = chain(web, checks, one, other)
                self.assertIs(is_chain(web, checks, one, other, told), follows(web, checks, one, other))
                self.assertEqual(parted_thing(web, world, one, other) is None, told is not None)
                for sort in BOTH:
                    self.assertIs(surely(web, checks, sort, (), one, other), told is not None)
            for u, v in parted_pairs(web, world):
                self.assertIs(is_check(web, parted_ways(web, world, u, v)), True)

    def test_the_third_fact(self):
        for web, _, chooser in cases(154):
            least = least_number(web)
            self.assertEqual(least, sum(many - 1 for _, _, many in least_pairs(web)))
            self.assertEqual([least] * 3, [lacking(web, []), len(further(web, [])), len(least_list(web))])
            self.assertEqual(least_many(web) == 1, least_many(web) == least_many(mirrored(web)) == 1)
            lists = [least_at(web, chooser.randrange(least_many(web))) for _ in range(3)]
            for one in (*lists, least_list(web)):
                self.assertIs(is_least(web, one), True)
                self.assertEqual(least_at(web, least_index(web, one)), one)
                self.assertEqual(spare(web, one), ())
                self.assertEqual(len(road(web, one, lists[0])), len(set(one) - set(lists[0])))
                self.assertEqual(cheapest(web, one, (1,) * least), (least, tuple(range(least))))
            every = plain_checks(web)
            chooser.shuffle(every)
            self.assertEqual(len(tidied(web, every)), least)
            price, lot = cheapest(web, every, tuple(range(len(every))))
            self.assertEqual((price, lot), (sum(tidied(web, every)), tidied(web, every)))

    def test_the_fourth_and_the_fifth_fact(self):
        for web, checks, chooser in cases(155):
            for sort in BOTH:
                told = some_told(web, chooser)
                homes = plain_homes(web, checks, sort, told)
                for one, other in plain_checks(web)[:6]:
                    follow = homes[one] == homes[other]
                    self.assertIs(surely(web, checks, sort, told, one, other), follow)
                    self.assertEqual(paper(web, checks, sort, told, one, other) is not None, follow)
                    try:
                        world = parting(web, checks, sort, told, one, other)
                    except errors.TooMany:
                        continue
                    self.assertEqual(world is None, follow)
                    if world is not None:
                        self.assertEqual(failed(web, world, checks), ())
            for root in plain_roots(web):
                found = root_checks(web, root)
                self.assertIs(enough_so(web, found, "onto", root_tree(web, root)), True)
                self.assertEqual(rank(web, found), len(found))
                self.assertIsNone(numbers(web, found))

    def test_the_sixth_fact(self):
        for web, checks, chooser in cases(156):
            lots = [()] if not web.arrows else [(), failed_by_chance(web, checks, chooser)[0]]
            for lot in lots:
                found = suspects(web, checks, lot)
                for arrow in range(len(web.arrows)):
                    self.assertEqual(bar(web, checks, lot, arrow) is None, arrow in found)
                    self.assertEqual(spoiled(web, checks, lot, arrow) is not None, arrow in found)
                left = [check for check in plain_checks(web) if check not in checks][:4]
                told = next_check(web, checks, lot, left)
                if left:
                    longer = [*checks, left[told[0]]]
                    self.assertEqual(told[1], max(len(suspects(web, longer, lot)),
                                                  len(suspects(web, longer, (*lot, len(checks))))))

    def test_ledgers_logs_judges_and_desks(self):
        for web, checks, chooser in cases(157):
            ledger, desk = Ledger(web), Desk()
            text = web_text(web).replace("\n", "|")
            desk.tell(f"web a {text}")
            for one, other in checks:
                word = chooser.choice(("passed", "passed", "failed"))
                getattr(ledger, word)((one, other))
                sides = [",".join(str(arrow) for arrow in way) for way in chooser.sample((one, other), 2)]
                desk.tell(f"{word} a {sides[0]} {sides[1]}")
            sound = ledger.sound()
            self.assertEqual(ledger.lacking(), lacking(web, sound))
            self.assertEqual(len(ledger.due()), lacking(web, sound))
            self.assertIs(is_further(web, sound, ledger.due()), True)
            self.assertIsNone(wrong_judge(web, sound, ledger.known))
            self.assertEqual(desk.tell("lacking a"), str(ledger.lacking()))
            self.assertEqual(desk.tell("least a"), str(least_number(web)))
            twin, lines = restored(web, log(ledger))
            self.assertEqual((twin.checks(), twin.web(), lines), (ledger.checks(), web, len(checks)))
            for check in ledger.due():
                twin.passed(check)
            self.assertEqual((twin.lacking(), twin.due()), (0, []))
            self.assertEqual(read_web(web_text(web)), web)
            self.assertEqual(read_checks(web, checks_text(web, checks)), list(checks))

    def test_made_webs_tell_the_same_story(self):
        for n in range(4):
            web = cube(n)
            self.assertEqual(least_number(web), n * (n - 1) // 2 * 2 ** max(n - 2, 0))
            self.assertEqual(never_seen(web), () if n > 1 else tuple(range(n)))
            self.assertEqual(full_rank(web), len(web.arrows) - web.places + 1)
        grid = floor(Web(3, ((0, 1), (1, 2))), Web(3, ((0, 1), (1, 2))))
        self.assertEqual((ways_many(grid, 0, 8), least_number(grid), least_many(grid)), (6, 4, 1))
        self.assertEqual(len(ways_of(grid)), sum(ways_many(grid, u, v) for u in range(9) for v in range(9)))


if __name__ == "__main__":
    unittest.main()
