"""5.1, 5.2 and what 0.2 to 0.5 say of enoughchecks/enough.py."""

import itertools
import random
import unittest

from enoughchecks.changes import beside, cube, floor
from enoughchecks.checking import are_checks
from enoughchecks.clusters import clusters, groups, holes
from enoughchecks.enough import enough, further, is_further, is_small_world, is_trees, lacking, small_world, spare
from enoughchecks.enough import tidied, trees
from enoughchecks.errors import NoChecks, NotEnough
from enoughchecks.webs import Web, ends
from enoughchecks.worlds import is_world, parted_pairs
from tests.support import C, D, H, NO_CHECKS, S, T, WRONG_TUPLES, agree, all_worlds, double_row, held_together, nested
from tests.support import plain_checks, plain_clusters, plain_ways, plainly_enough, row_web, some_checks, some_webs
from tests.support import some_world, wide_web

ONE_WAY_AT_MOST = (Web(1, ()), Web(60, ()), row_web(60), Web(3, ((0, 1), (0, 2))))
SQUARE_OF_S = ((0, 2), (1, 2))


def all_subsets(things):
    for many in range(len(things) + 1):
        yield from itertools.combinations(things, many)


def tiny_webs():
    """Webs with few checks, so that all lists of them can be tried."""
    return [web for web in some_webs(150, 5, 6) if len(plain_checks(web)) <= 6]


def random_cases(seed, many=60, most=8):
    """Pairs of a web and of checks, more often enough than by chance alone."""
    chooser = random.Random(seed)
    for web in some_webs(many, 6, 10):
        for _ in range(2):
            checks = list(some_checks(web, chooser, most))
            yield web, checks
            more = [*checks, *further(web, checks)]
            chooser.shuffle(more)
            yield web, tuple(more)


def plain_trees(web, checks, thing):
    """Whether a dict is trees, told in the words of the document with all ways listed."""
    wanted = set()
    for u, v in itertools.product(range(web.places), repeat=2):
        found = plain_clusters(web, u, v)
        if len(found) < 2:
            continue
        wanted.add((u, v))
        lot = thing.get((u, v))
        home = {way: index for index, (_, ways) in enumerate(found) for way in ways}
        if type(lot) is not tuple or list(lot) != sorted(set(lot)) or len(lot) != len(found) - 1:
            return False
        if not all(type(k) is int and 0 <= k < len(checks) and ends(web, checks[k][0]) == (u, v) for k in lot):
            return False
        links = [(home[checks[k][0]], home[checks[k][1]]) for k in lot]
        if len(held_together(range(len(found)), links)) > 1:
            return False
    return set(thing) == wanted


def plainly_small(web, checks, world):
    """Whether a world is a small world, told in the words of the document with all ways listed."""
    if len([size for size in world[0] if size > 1]) > 1:
        return False
    if not all(agree(web, world, one, other) for one, other in checks):
        return False
    return any(not agree(web, world, one, other) for one, other in plain_checks(web))


class EnoughTest(unittest.TestCase):
    def test_of_the_examples(self):
        self.assertIs(enough(T, C), True)
        self.assertIs(enough(T, tuple(C)), True)
        self.assertIs(enough(T, C[:1]), False)
        self.assertIs(enough(T, []), False)
        self.assertIs(enough(T, [((0, 2), (1, 3))]), False)
        self.assertIs(enough(S, [((0,), (1,))]), True)
        self.assertIs(enough(S, [SQUARE_OF_S]), False)
        self.assertIs(enough(H, [((0,), (1,)), ((1,), (2,))]), True)
        self.assertIs(enough(H, [((0,), (1,))]), False)

    def test_no_checks_are_enough_just_where_there_are_none(self):
        for web in (*some_webs(), *ONE_WAY_AT_MOST):
            self.assertIs(enough(web, []), len(plain_checks(web)) == 0)
            self.assertIs(enough(web, ()), len(plain_checks(web)) == 0)

    def test_against_exchanging_ways(self):
        for web, checks in random_cases(21):
            self.assertIs(enough(web, checks), plainly_enough(web, checks))

    def test_against_every_small_enough_world(self):
        # By the first fact, worlds of two things at most at each place tell whether checks are enough.
        chooser = random.Random(22)
        for web in (D, H, S, Web(4, ((0, 1), (0, 1), (1, 2), (2, 3)))):
            worlds = list(all_worlds(web, 2))
            parting = [world for world in worlds if parted_pairs(web, world)]
            for _ in range(12):
                checks = some_checks(web, chooser, 3)
                passing = [world for world in parting if all(agree(web, world, *check) for check in checks)]
                self.assertIs(enough(web, checks), len(passing) == 0)

    def test_the_first_fact(self):
        for web, checks in random_cases(23):
            told = enough(web, checks)
            self.assertIs(holes(web, checks) == [], told)
            self.assertIs(trees(web, checks) is not None, told)
            self.assertIs(small_world(web, checks) is None, told)
            self.assertIs(lacking(web, checks) == 0, told)

    def test_a_check_within_one_cluster_never_helps(self):
        for web, checks in random_cases(24, 40):
            for check in plain_checks(web):
                u, v = ends(web, check[0])
                apart = all(len(set(check) & set(ways)) < 2 for _, ways in plain_clusters(web, u, v))
                if check in checks or apart:
                    continue
                self.assertIs(enough(web, [*checks, check]), enough(web, checks))
                self.assertEqual(lacking(web, [*checks, check]), lacking(web, checks))
                self.assertEqual(trees(web, [*checks, check]), trees(web, checks))

    def test_no_checks(self):
        calls = [enough, trees, small_world, lacking, further, spare, tidied]
        calls += [lambda web, checks, judge=judge: judge(web, checks, thing)
                  for judge in (is_trees, is_small_world, is_further) for thing in (None, {}, [], ())]
        for called in calls:
            for checks in NO_CHECKS:
                with self.assertRaises(NoChecks):
                    called(T, checks)


class TreesTest(unittest.TestCase):
    def test_of_the_examples(self):
        self.assertEqual(trees(T, C), {(0, 2): (0,), (1, 3): (1,)})
        self.assertEqual(trees(T, C[::-1]), {(0, 2): (1,), (1, 3): (0,)})
        self.assertIsNone(trees(T, C[1:]))
        self.assertIs(is_trees(T, C, {(0, 2): (0,), (1, 3): (1,)}), True)

    def test_of_webs_without_two_clusters(self):
        for web in ONE_WAY_AT_MOST:
            self.assertEqual(trees(web, []), {})
            self.assertIs(is_trees(web, [], {}), True)
            self.assertIs(is_trees(web, (), {(0, 0): ()}), False)
            self.assertIs(is_trees(web, (), {(0, 1): ()}), False)
            self.assertIs(is_trees(web, [], None), False)

    def test_by_what_they_are(self):
        for web, checks in random_cases(31):
            found = trees(web, checks)
            if found is None:
                self.assertIs(plainly_enough(web, checks), False)
            else:
                self.assertIs(type(found), dict)
                self.assertIs(plain_trees(web, checks, found), True)
                self.assertIs(is_trees(web, checks, found), True)

    def test_each_choice_of_checks(self):
        every = [((0,), (1,)), ((0,), (2,)), ((1,), (2,))]
        for checks in (every, tuple(every[::-1])):
            for lot in all_subsets(range(3)):
                self.assertIs(is_trees(H, checks, {(0, 1): lot}), len(lot) == 2)
        self.assertIs(is_trees(H, every[:1], {(0, 1): (0,)}), False)

    def test_rings_of_checks_are_no_tree(self):
        web = Web(2, ((0, 1),) * 4)
        checks = [((0,), (1,)), ((1,), (2,)), ((0,), (2,)), ((2,), (3,))]
        for lot in itertools.combinations(range(4), 3):
            self.assertIs(is_trees(web, checks, {(0, 1): lot}), lot != (0, 1, 2))
        self.assertIs(is_trees(web, checks, {(0, 1): (0, 1, 2, 3)}), False)

    def test_all_dicts_of_lots(self):
        for web, checks in random_cases(32, 25, 4):
            pairs = list(trees(web, plain_checks(web)))
            lots = list(all_subsets(range(len(checks))))
            if len(lots) ** len(pairs) > 300:
                continue
            for chosen in itertools.product(lots, repeat=len(pairs)):
                thing = dict(zip(pairs, chosen))
                self.assertIs(is_trees(web, checks, thing), plain_trees(web, checks, thing))

    def test_wrong_keys(self):
        good = {(0, 2): (0,), (1, 3): (1,)}
        for key in ((0, 3), (0, 1), (2, 0), (0, 2, 0), (4, 5), (0,), 0, None, "", "02", (), ((0, 2),), b"", 10 ** 59,
                    ("0", "2"), (None, None), int, len, nested(tuple, 40)):
            self.assertIs(is_trees(T, C, {**good, key: (0,)}), False)
            self.assertIs(is_trees(T, C, {**good, key: ()}), False)
            self.assertIs(is_trees(T, C, {(0, 2): (0,), key: (1,)}), False)
            self.assertIs(is_trees(T, C, {key: (0,), (1, 3): (1,)}), False)
            self.assertIs(is_trees(T, C, {key: ()}), False)
        self.assertIs(is_trees(T, C, {(0, 2): (0,)}), False)
        self.assertIs(is_trees(T, C, {}), False)

    def test_wrong_lots(self):
        for lot in (*WRONG_TUPLES, [0], (False,), (0, 0), (0, 1), (1,), (2,), (-1,), (-2,), (10 ** 59,), (0, None)):
            self.assertIs(is_trees(T, C, {(0, 2): lot, (1, 3): (1,)}), False, lot)
            self.assertIs(is_trees(T, C, {(1, 3): (1,), (0, 2): lot}), False, lot)
        self.assertIs(is_trees(T, C, {(0, 2): (0,), (1, 3): (True,)}), False)
        self.assertIs(is_trees(T, C, {(0, 2): (1,), (1, 3): (0,)}), False)

    def test_lots_in_order(self):
        checks = [((0,), (1,)), ((1,), (2,))]
        self.assertIs(is_trees(H, checks, {(0, 1): (0, 1)}), True)
        self.assertIs(is_trees(H, checks, {(0, 1): (1, 0)}), False)
        self.assertIs(is_trees(H, checks, {(0, 1): (0, 0)}), False)

    def test_any_object(self):
        for thing in (*WRONG_TUPLES, [((0, 2), (0,)), ((1, 3), (1,))], (((0, 2), (0,)), ((1, 3), (1,)))):
            self.assertIs(is_trees(T, C, thing), False)

    def test_new_dicts_each_time(self):
        trees(T, C).clear()
        self.assertEqual(trees(T, C), {(0, 2): (0,), (1, 3): (1,)})


class SmallWorldTest(unittest.TestCase):
    def test_of_the_examples(self):
        check = [((0,), (1,))]
        self.assertIs(is_small_world(H, check, ((1, 2), ((0,), (0,), (1,)))), True)
        self.assertIs(is_small_world(H, check, ((1, 2), ((0,), (1,), (1,)))), False)
        self.assertIs(is_small_world(H, check, ((1, 2), ((0,), (0,), (0,)))), False)
        self.assertIs(is_small_world(H, check, ((2, 1), ((0, 0), (0, 0), (0, 0)))), False)
        self.assertIs(is_small_world(H, check, ((2, 2), ((0, 1), (0, 1), (1, 1)))), False)
        self.assertIs(is_small_world(H, check, ((1, 10 ** 59), ((7,), (7,), (10 ** 58,)))), True)
        self.assertIs(is_small_world(H, check, ((0, 2), ((), (), ()))), False)

    def test_more_than_one_thing_stands_at_one_place_at_most(self):
        # The first place has two things, too, though one would part the ways as well.
        self.assertIs(is_small_world(S, [], ((1, 2, 1), ((0,), (1,), (0, 0)))), True)
        self.assertIs(is_small_world(S, [], ((1, 2, 2), ((0,), (1,), (0, 0)))), False)
        self.assertIs(is_small_world(S, [], ((2, 2, 1), ((0, 0), (1, 1), (0, 0)))), False)
        self.assertIs(is_small_world(S, [], ((1, 1, 1), ((0,), (0,), (0,)))), False)
        self.assertIs(is_small_world(S, [], ((0, 0, 2), ((), (), ()))), False)

    def test_by_what_they_are(self):
        for web, checks in random_cases(41):
            world = small_world(web, checks)
            if world is None:
                self.assertIs(plainly_enough(web, checks), True)
                self.assertIs(is_small_world(web, checks, world), False)
            else:
                self.assertIs(is_world(web, world), True)
                self.assertIs(plainly_small(web, checks, world), True)
                self.assertIs(is_small_world(web, checks, world), True)

    def test_judging_all_worlds_of_small_webs(self):
        chooser = random.Random(42)
        for web in (H, S, D, Web(3, ((0, 1), (1, 2), (0, 2)))):
            worlds = list(all_worlds(web, 2))
            for _ in range(6):
                checks = some_checks(web, chooser, 2)
                for world in worlds:
                    self.assertIs(is_small_world(web, checks, world), plainly_small(web, checks, world))

    def test_judging_worlds_by_chance(self):
        chooser = random.Random(43)
        for web in some_webs():
            checks = some_checks(web, chooser, 2)
            for _ in range(5):
                sizes = [chooser.randint(0, 1) for _ in range(web.places)]
                sizes[chooser.randrange(web.places)] = 3
                world = some_world(web, chooser, 1)
                self.assertIs(is_small_world(web, checks, world), False)
                grown = (tuple(max(size, kept) for size, kept in zip(world[0], sizes)), world[1])
                if is_world(web, grown):
                    self.assertIs(is_small_world(web, checks, grown), plainly_small(web, checks, grown))

    def test_any_object(self):
        good = small_world(T, C[:1])
        for thing in (*WRONG_TUPLES, list(good), (list(good[0]), good[1]), (good[0], list(good[1])), good[:1],
                      (good[0], good[1][:-1]), (good[0][:-1], good[1]), (*good, None)):
            self.assertIs(is_small_world(T, C[:1], thing), False)
            self.assertIs(is_small_world(T, C[:1], (thing, good[1])), False)
            self.assertIs(is_small_world(T, C[:1], (good[0], thing)), False)


class LackingTest(unittest.TestCase):
    def test_of_the_examples(self):
        self.assertEqual(lacking(T, []), 2)
        self.assertEqual(lacking(T, C[:1]), 1)
        self.assertEqual(lacking(T, C), 0)
        self.assertEqual(lacking(T, [((0, 2), (1, 3))]), 2)
        self.assertEqual(lacking(H, ()), 2)
        self.assertEqual(lacking(D, ()), 1)
        self.assertEqual(lacking(S, [SQUARE_OF_S]), 1)
        self.assertEqual(further(T, C), [])
        self.assertEqual(further(D, []), [((0, 2), (1, 3))])
        self.assertEqual(further(S, [SQUARE_OF_S]), [((0,), (1,))])

    def test_by_trying_all_lists(self):
        chooser = random.Random(51)
        for web in tiny_webs():
            checks = some_checks(web, chooser, 2)
            left = [check for check in plain_checks(web) if check not in checks]
            good = [more for more in all_subsets(left) if plainly_enough(web, [*checks, *more])]
            self.assertEqual(lacking(web, checks), len(good[0]))
            found = further(web, checks)
            self.assertIs(type(found), list)
            self.assertIn(tuple(sorted(found)), good)
            self.assertEqual(len(found), len(good[0]))
            for more in all_subsets(left):
                self.assertIs(is_further(web, checks, more), more in good)
                self.assertIs(is_further(web, checks, list(more)[::-1]), more in good)

    def test_further_by_what_it_is(self):
        for web, checks in random_cases(52):
            found = further(web, checks)
            self.assertEqual(len(found), lacking(web, checks))
            self.assertIs(are_checks(web, [*found, *checks]), True)
            self.assertIs(is_further(web, checks, found), True)
            self.assertIs(plainly_enough(web, [*checks, *found]), True)

    def test_any_number_of_further_checks(self):
        every = plain_checks(T)
        more = [check for check in every if check not in C]
        self.assertIs(is_further(T, C, []), True)
        self.assertIs(is_further(T, C, ()), True)
        self.assertIs(is_further(T, C, more), True)
        self.assertIs(is_further(T, [], every), True)
        self.assertIs(is_further(T, [], C), True)
        self.assertIs(is_further(T, tuple(C[:1]), C[1:]), True)
        self.assertIs(is_further(T, C[:1], tuple(C[1:])), True)
        self.assertIs(is_further(T, C[:1], []), False)
        self.assertIs(is_further(T, C[:1], more[:1]), False)

    def test_none_of_them_among_the_checks(self):
        self.assertIs(is_further(T, C, C), False)
        self.assertIs(is_further(T, C, C[:1]), False)
        self.assertIs(is_further(T, C[:1], C), False)
        self.assertIs(is_further(T, [], [*C, C[0]]), False)
        self.assertIs(is_further(T, C[:1], [C[1], C[1]]), False)

    def test_any_object(self):
        for thing in (*WRONG_TUPLES, C[0], {}, {C[0]: 1}, "", iter(C), [None], [list(C[0])], [C[0][::-1]], dict(C)):
            if isinstance(thing, (list, tuple)) and len(thing) == 0:
                continue
            self.assertIs(is_further(T, [], thing), False)
            self.assertIs(is_further(T, C, thing), False)
            self.assertIs(is_further(T, [], [*C, thing]), False)
            self.assertIs(is_further(T, C, (thing,)), False)
            self.assertIs(is_further(T, C[:1], (C[1], thing)), False)

    def test_new_lists_each_time(self):
        further(T, C).append(None)
        self.assertEqual(further(T, C), [])
        further(T, []).append(None)
        self.assertEqual(len(further(T, [])), 2)


class SpareTest(unittest.TestCase):
    def test_of_the_examples(self):
        self.assertEqual(spare(T, C), ())
        self.assertEqual(tidied(T, C), (0, 1))
        every = plain_checks(T)
        self.assertEqual([every[k] for k in tidied(T, every)], C)
        self.assertEqual([every[k] for k in spare(T, every)], [check for check in every if check not in C])
        self.assertEqual(spare(H, [((0,), (1,)), ((0,), (2,)), ((1,), (2,))]), (0, 1, 2))
        self.assertEqual(tidied(H, [((0,), (1,)), ((0,), (2,)), ((1,), (2,))]), (0, 1))
        self.assertEqual(tidied(S, [SQUARE_OF_S, ((0,), (1,))]), (1,))
        self.assertEqual(spare(S, [SQUARE_OF_S, ((0,), (1,))]), (0,))

    def test_where_nothing_is_there(self):
        for web in ONE_WAY_AT_MOST:
            self.assertEqual(spare(web, []), ())
            self.assertEqual(tidied(web, ()), ())

    def test_one_that_all_trees_need_beside_a_ring(self):
        web = Web(2, ((0, 1),) * 4)
        checks = [((0,), (1,)), ((2,), (3,)), ((1,), (2,)), ((0,), (2,))]
        self.assertEqual(spare(web, checks), (0, 2, 3))
        self.assertEqual(tidied(web, checks), (0, 1, 2))
        # Two checks of the same two clusters stand in for each other.
        web = Web(3, ((0, 2), (0, 1), (0, 1), (1, 2)))
        checks = [((0,), (1, 3)), ((0,), (2, 3)), ((1,), (2,))]
        self.assertEqual(spare(web, checks), (0, 1))
        self.assertEqual(tidied(web, checks), (0, 2))

    def test_in_the_words_of_the_document(self):
        seen = 0
        for web, checks in random_cases(61, 80):
            if not plainly_enough(web, checks):
                for called in (spare, tidied):
                    with self.assertRaises(NotEnough):
                        called(web, checks)
                continue
            seen += 1
            alone = [k for k in range(len(checks)) if plainly_enough(web, [*checks[:k], *checks[k + 1:]])]
            self.assertEqual(spare(web, checks), tuple(alone))
            left = list(range(len(checks)))
            for k in range(len(checks) - 1, -1, -1):
                if plainly_enough(web, [checks[j] for j in left if j != k]):
                    left.remove(k)
            self.assertEqual(tidied(web, checks), tuple(left))
            self.assertEqual(len(left), lacking(web, []))
        self.assertGreater(seen, 100)

    def test_not_enough(self):
        for checks in ([], C[:1], C[1:], [((0, 2), (1, 3))]):
            for called in (spare, tidied):
                with self.assertRaises(NotEnough):
                    called(T, checks)


class ManyWaysTest(unittest.TestCase):
    def judged(self, web):
        """Go through all calls with checks that are enough, and with one of them missing."""
        checks = further(web, [])
        self.assertIs(is_further(web, [], checks), True)
        self.assertIs(enough(web, checks), True)
        self.assertIs(is_trees(web, checks, trees(web, checks)), True)
        self.assertIsNone(small_world(web, checks))
        self.assertEqual(spare(web, checks), ())
        self.assertEqual(tidied(web, checks), tuple(range(len(checks))))
        fewer = checks[:-1]
        self.assertIs(enough(web, fewer), False)
        self.assertEqual(lacking(web, fewer), 1)
        self.assertEqual(holes(web, fewer), [ends(web, checks[-1][0])])
        self.assertIsNone(trees(web, fewer))
        world = small_world(web, fewer)
        self.assertIs(is_small_world(web, fewer, world), True)
        self.assertIs(is_small_world(web, checks, world), False)
        self.assertEqual(len(further(web, fewer)), 1)
        self.assertIs(is_further(web, fewer, further(web, fewer)), True)
        return len(checks)

    def test_a_wide_web(self):
        self.assertEqual(self.judged(wide_web()), 46 * 6 + 13 * 5)

    def test_a_double_row(self):
        self.assertEqual(self.judged(double_row(59)), 59)

    def test_400_arrows_alike(self):
        self.assertEqual(self.judged(Web(2, ((0, 1),) * 400)), 399)

    def test_a_cube(self):
        self.assertEqual(self.judged(cube(3)), 6)
        self.assertEqual(self.judged(cube(6)), 240)

    def test_a_web_of_60_places_and_400_arrows_anywhere(self):
        chooser = random.Random(71)
        steps = list(itertools.combinations(range(60), 2))
        web = Web(60, tuple(chooser.sample(steps, 400)))
        self.assertEqual(self.judged(web), lacking(web, []))
        self.assertEqual(lacking(web, []), sum(
            len(groups(web, [], u, v)) - 1 for u, v in steps if len(clusters(web, u, v)) > 1))

    def test_webs_beyond_the_bounds_of_constructing(self):
        self.assertEqual(self.judged(beside(wide_web(), wide_web())), 2 * (46 * 6 + 13 * 5))
        self.assertEqual(self.judged(floor(row_web(12), row_web(10))), 11 * 9)

    def test_checks_of_long_ways(self):
        web = double_row(59)
        one = tuple(range(0, 118, 2))
        checks = [(one, tuple(range(1, 118, 2))), (one, (*one[:-1], 117))]
        self.assertEqual(lacking(web, checks), 59)
        self.assertIs(is_small_world(web, checks, small_world(web, checks)), True)


class NothingChangesTest(unittest.TestCase):
    def test_arguments(self):
        for called in (enough, trees, small_world, lacking, further, spare, tidied):
            checks = [*C, ((0, 2), (1, 3))]
            called(T, checks)
            self.assertEqual(checks, [*C, ((0, 2), (1, 3))])
        thing = {(0, 2): (0,), (1, 3): (1,)}
        is_trees(T, C, thing)
        self.assertEqual(thing, {(0, 2): (0,), (1, 3): (1,)})
        more = [C[1]]
        is_further(T, C[:1], more)
        self.assertEqual(more, [C[1]])

    def test_equal_calls_give_equal_answers(self):
        for web, checks in random_cases(81, 20):
            for called in (trees, small_world, further, lacking, holes):
                self.assertEqual(called(web, checks), called(Web(web.places, web.arrows), list(checks)))

    def test_ways_of_the_same_ends_are_all_that_is_compared(self):
        self.assertEqual([ends(T, one) for one, _ in plain_checks(T)].count((0, 3)), 3)
        self.assertEqual(len(plain_ways(T, 0, 3)), 3)


if __name__ == "__main__":
    unittest.main()
