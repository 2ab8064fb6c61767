"""3.1, 3.2 and what 0.2 to 0.5 say of enoughchecks/worlds.py."""

import itertools
import random
import unittest

from enoughchecks.changes import beside, floor
from enoughchecks.errors import NoChecks, NoPair, NoPlace, NoThing, NoWay, NoWorld
from enoughchecks.webs import Web, ends
from enoughchecks.worlds import failed, is_parted_ways, is_world, led, parted_pairs, parted_thing, parted_ways
from tests.support import C, D, H, NO_NUMBERS_NO_TUPLES, ODD_TUPLES, S, T, WRONG_NUMBERS, WRONG_TUPLES, agree
from tests.support import all_worlds, double_row, nested, plain_led, plain_ways, row_web, some_checks, some_webs
from tests.support import some_world, wide_web

GREAT = 10 ** 60 - 1
# In this world of T things 0 and 1 of place 0 go apart only on the ways (0, 2) and (0, 4, 3).
W = ((2, 3, 2, 4), ((0, 2), (1, 1), (3, 3, 3), (3, 0), (1, 1, 0)))
# Each call that takes a world of T.
WITH_WORLD = [
    lambda world: led(T, world, (0,), 0),
    lambda world: parted_thing(T, world, (0, 2), (1, 3)),
    lambda world: failed(T, world, C),
    lambda world: parted_pairs(T, world),
    lambda world: parted_ways(T, world, 0, 3),
    lambda world: is_parted_ways(T, world, 0, 3, ((0, 2), (1, 3))),
]
# Things that are nearly a world of T.
NO_WORLDS_OF_T = [
    list(W), (list(W[0]), W[1]), (W[0], list(W[1])), (W[0], (*W[1][:4], [1, 1, 0])), (*W, ()), W[:1], (), (W,),
    ((2, 3, 2), W[1]), ((2, 3, 2, 4, 1), W[1]), (W[0], W[1][:4]), (W[0], (*W[1], ())), ((), ()), (W[1], W[0]),
    ((-1, 3, 2, 4), ((), *W[1][1:])), ((True, 3, 2, 4), ((0,), (1,), *W[1][2:])), ((2, 3, 2, None), W[1]),
    ((2, 3, 2, "4"), W[1]), ((2, 3, 2, -4), W[1]), ((2, 3, 2, 3), W[1]), ((2, 3, 1, 4), W[1]), ((1, 3, 2, 4), W[1]),
    ((3, 3, 2, 4), W[1]), ((2, 2, 2, 4), W[1]), ((2, 4, 2, 4), W[1]), ((2, 3, 3, 4), W[1]), ((0, 0, 0, 0), W[1]),
    (W[0], ((0, 3), *W[1][1:])), (W[0], ((0, -1), *W[1][1:])), (W[0], ((0, True), *W[1][1:])),
    (W[0], ((False, 2), *W[1][1:])), (W[0], ((0,), *W[1][1:])), (W[0], ((0, 2, 0), *W[1][1:])),
    (W[0], (None, *W[1][1:])), (W[0], ({0: 0, 1: 2}, *W[1][1:])), (W[0], (2, *W[1][1:])), (W[0], ("02", *W[1][1:])),
    (W[0], ((0, None), *W[1][1:])), (W[0], ((0, GREAT), *W[1][1:])), (W[0], (((0, 2),), *W[1][1:])),
    (W[0], dict(enumerate(W[1]))), (dict(enumerate(W[0])), W[1]), {0: W[0], 1: W[1]}, ((1, 0, 1, 1), ((0,),) * 5),
    (0, 0), (4, 5), (W[0], None), (None, W[1]), "ab", b"ab", (nested(tuple, 39), W[1]),
    (W[0], (nested(tuple, 38),) * 5),
]


class IsWorldTest(unittest.TestCase):
    def test_worlds(self):
        self.assertIs(is_world(T, W), True)
        self.assertIs(is_world(H, ((1, 2), ((0,), (0,), (1,)))), True)
        self.assertIs(is_world(Web(1, ()), ((0,), ())), True)
        self.assertIs(is_world(Web(1, ()), ((7,), ())), True)
        self.assertIs(is_world(Web(60, ()), ((1,) * 60, ())), True)

    def test_places_without_things(self):
        self.assertIs(is_world(T, ((0, 0, 0, 0), ((),) * 5)), True)
        self.assertIs(is_world(T, ((0, 0, 0, 4), ((),) * 5)), True)
        self.assertIs(is_world(T, ((0, 2, 2, 4), ((), (), (0, 1), (2, 3), (0, 0)))), True)
        # What reaches a place without things has none, as there is nowhere to lead them.
        for table in ((), (0,), (1,), (-1,), (None,)):
            self.assertIs(is_world(S, ((1, 0, 0), (table, table, ()))), False)
        self.assertIs(is_world(S, ((0, 1, 0), ((), (), ()))), False)
        self.assertIs(is_world(S, ((0, 1, 0), ((), (), (0,)))), False)

    def test_sizes_without_bound(self):
        self.assertIs(is_world(S, ((1, 2, GREAT), ((0,), (1,), (GREAT - 1, 0)))), True)
        self.assertIs(is_world(S, ((1, 2, GREAT), ((0,), (1,), (GREAT, 0)))), False)
        self.assertIs(is_world(S, ((1, 2, 0), ((0,), (1,), (GREAT, 0)))), False)
        self.assertIs(is_world(Web(3, ()), ((GREAT, GREAT, GREAT), ())), True)
        self.assertIs(is_world(S, ((GREAT, 1, 1), ((0,), (0,), (0,)))), False)
        self.assertIs(is_world(S, ((1000, 2, 3), ((0, 1) * 500, (1, 1) * 500, (2, 0)))), True)

    def test_what_is_nearly_one(self):
        for thing in NO_WORLDS_OF_T:
            self.assertIs(is_world(T, thing), False, thing)
        self.assertIs(is_world(S, W), False)

    def test_any_object(self):
        for thing in (*WRONG_TUPLES, (0,), (0, 1, 2)):
            self.assertIs(is_world(T, thing), False)
            self.assertIs(is_world(T, (thing, W[1])), False)
            self.assertIs(is_world(T, (W[0], thing)), False)
            self.assertIs(is_world(T, (W[0], (thing, *W[1][1:]))), False)
        for thing in (-1, -GREAT, *NO_NUMBERS_NO_TUPLES, *ODD_TUPLES):
            self.assertIs(is_world(T, ((2, 3, 2, thing), W[1])), False)
            self.assertIs(is_world(T, ((thing, 3, 2, 4), W[1])), False)
            self.assertIs(is_world(T, (W[0], ((thing, 0), *W[1][1:]))), False)

    def test_just_the_worlds_of_a_small_web(self):
        worlds = list(all_worlds(S, 2))
        self.assertEqual(len(worlds), len(set(worlds)))
        sizes = list(itertools.product(range(3), repeat=3))
        tables = [row for length in range(3) for row in itertools.product(range(2), repeat=length)]
        known = set(worlds)
        for pair in itertools.product(sizes, itertools.product(tables, repeat=3)):
            self.assertIs(is_world(S, pair), pair in known)

    def test_no_world_wherever_one_is_due(self):
        for called in WITH_WORLD:
            called(W)
            for thing in (*NO_WORLDS_OF_T, *WRONG_TUPLES):
                with self.assertRaises(NoWorld):
                    called(thing)


class LedTest(unittest.TestCase):
    def test_of_single_things(self):
        self.assertEqual(led(T, W, (0,), 0), 0)
        self.assertEqual(led(T, W, (0,), 1), 2)
        self.assertEqual(led(T, W, (0, 4), 0), 1)
        self.assertEqual(led(T, W, (0, 4), 1), 0)
        self.assertEqual(led(T, W, (0, 4, 3), 0), 0)
        self.assertEqual(led(T, W, (0, 4, 3), 1), 3)
        self.assertEqual(led(T, W, (0, 2), 1), 3)
        self.assertEqual(led(T, W, (1, 3), 1), 0)

    def test_against_plain_leading(self):
        chooser = random.Random(5)
        for web in some_webs():
            world = some_world(web, chooser)
            self.assertIs(is_world(web, world), True)
            for u in range(web.places):
                for v in range(web.places):
                    for way in plain_ways(web, u, v):
                        for thing in range(world[0][u]):
                            self.assertEqual(led(web, world, way, thing), plain_led(web, world, way, thing))

    def test_very_great_things(self):
        world = ((1, 2, GREAT), ((0,), (1,), (GREAT - 1, 0)))
        self.assertEqual(led(S, world, (0, 2), 0), GREAT - 1)
        self.assertEqual(led(S, world, (1, 2), 0), 0)

    def test_no_thing(self):
        for thing in (2, GREAT, *WRONG_NUMBERS):
            with self.assertRaises(NoThing):
                led(T, W, (0,), thing)
        with self.assertRaises(NoThing):
            led(T, W, (2,), 3)
        with self.assertRaises(NoThing):
            led(T, ((0, 3, 2, 4), ((), (), *W[1][2:])), (0, 2), 0)
        self.assertEqual(led(T, W, (2,), 2), 3)

    def test_errors_in_their_order(self):
        for way in (*WRONG_TUPLES, (5,), (0, 3), (-1,)):
            with self.assertRaises(NoWay):
                led(T, W, way, None)
            with self.assertRaises(NoWorld):
                led(T, None, way, None)


class PartedThingTest(unittest.TestCase):
    def test_of_single_ways(self):
        self.assertEqual(parted_thing(T, W, (0, 2), (0, 4, 3)), 0)
        self.assertEqual(parted_thing(T, W, (0, 4, 3), (1, 3)), 1)
        self.assertEqual(parted_thing(T, W, (1, 3), (0, 4, 3)), 1)
        self.assertIsNone(parted_thing(T, W, (0, 2), (0, 2)))
        self.assertEqual(parted_thing(T, W, (2,), (4, 3)), 0)
        self.assertIsNone(parted_thing(T, ((0, 3, 2, 4), ((), (), *W[1][2:])), (0, 2), (1, 3)))

    def test_ways_of_one_arrow(self):
        world = ((3, 2), ((0, 1, 1), (0, 1, 0), (1, 1, 1)))
        self.assertEqual(parted_thing(H, world, (0,), (1,)), 2)
        self.assertEqual(parted_thing(H, world, (1,), (2,)), 0)

    def test_against_plain_leading(self):
        chooser = random.Random(6)
        for web in some_webs(40):
            world = some_world(web, chooser)
            for u in range(web.places):
                for v in range(web.places):
                    for one, other in itertools.product(plain_ways(web, u, v), repeat=2):
                        parted = [thing for thing in range(world[0][u])
                                  if plain_led(web, world, one, thing) != plain_led(web, world, other, thing)]
                        self.assertEqual(parted_thing(web, world, one, other), min(parted, default=None))

    def test_no_pair(self):
        for one, other in (((0,), (1,)), ((0, 2), (2,)), ((0, 2), (0,)), ((2,), (3,)), ((0,), (4,))):
            with self.assertRaises(NoPair):
                parted_thing(T, W, one, other)

    def test_errors_in_their_order(self):
        for thing in (*WRONG_TUPLES, (5,), (0, 3)):
            with self.assertRaises(NoWay):
                parted_thing(T, W, thing, (0,))
            with self.assertRaises(NoWay):
                parted_thing(T, W, (0,), thing)
            with self.assertRaises(NoWorld):
                parted_thing(T, thing, thing, thing)


class FailedTest(unittest.TestCase):
    def test_of_the_examples(self):
        self.assertEqual(failed(T, W, C), (0, 1))
        self.assertEqual(failed(T, W, C[:1]), (0,))
        self.assertEqual(failed(T, W, [((0, 2), (0, 4, 3)), ((2,), (4, 3))]), (0, 1))
        self.assertEqual(failed(T, ((1, 1, 1, 2), ((0,), (0,), (1,), (0,), (0,))), (C[0], C[1])), (1,))
        self.assertEqual(failed(T, W, []), ())
        self.assertEqual(failed(T, W, ()), ())
        self.assertEqual(failed(T, ((0, 0, 0, 5), ((),) * 5), C), ())

    def test_against_plain_leading(self):
        chooser = random.Random(7)
        for web in some_webs():
            for _ in range(3):
                world = some_world(web, chooser)
                checks = some_checks(web, chooser, 6)
                expected = tuple(k for k, (one, other) in enumerate(checks) if not agree(web, world, one, other))
                self.assertEqual(failed(web, world, checks), expected)

    def test_errors_in_their_order(self):
        for checks in (None, [C[0], C[0]], C[0], {}, "ab", [None], [((1,), (0, 4))], 0):
            with self.assertRaises(NoChecks):
                failed(T, W, checks)
            with self.assertRaises(NoWorld):
                failed(T, None, checks)
        with self.assertRaises(NoWorld):
            failed(T, ((2, 3, 2, 4), ()), C)


def plain_parted(web, world, u, v):
    """All pairs of ways from u to v that disagree, the lesser one first."""
    return [(one, other) for one, other in itertools.combinations(plain_ways(web, u, v), 2)
            if not agree(web, world, one, other)]


class PartedWaysTest(unittest.TestCase):
    def test_of_t(self):
        self.assertEqual(parted_pairs(T, W), [(0, 2), (0, 3), (1, 3)])
        self.assertEqual(parted_ways(T, W, 0, 2), ((0, 4), (1,)))
        self.assertEqual(parted_ways(T, W, 1, 3), ((2,), (4, 3)))
        self.assertIsNone(parted_ways(T, W, 0, 1))
        self.assertIsNone(parted_ways(T, W, 3, 0))
        self.assertIsNone(parted_ways(T, W, 2, 2))

    def test_ways_that_part_and_meet_again(self):
        world = ((1, 2, 1), ((0,), (1,), (0, 0)))
        self.assertEqual(parted_pairs(S, world), [(0, 1)])
        self.assertIsNone(parted_ways(S, world, 0, 2))
        self.assertEqual(parted_ways(S, world, 0, 1), ((0,), (1,)))

    def test_ways_that_part_for_one_thing_only(self):
        world = ((3, 3), ((0, 1, 2), (0, 1, 2), (0, 1, 1)))
        self.assertEqual(parted_pairs(H, world), [(0, 1)])
        self.assertIn(parted_ways(H, world, 0, 1), [((0,), (2,)), ((1,), (2,))])
        self.assertIs(is_parted_ways(H, world, 0, 1, ((0,), (1,))), False)
        self.assertIs(is_parted_ways(H, world, 0, 1, ((0,), (2,))), True)
        self.assertIs(is_parted_ways(H, world, 0, 1, ((2,), (0,))), False)

    def test_against_listing_all(self):
        chooser = random.Random(8)
        for web in some_webs():
            for most in (1, 2, 3):
                world = some_world(web, chooser, most)
                pairs = []
                for u, v in itertools.product(range(web.places), repeat=2):
                    parted = plain_parted(web, world, u, v)
                    found = parted_ways(web, world, u, v)
                    if parted:
                        pairs.append((u, v))
                        self.assertIn(found, parted)
                    else:
                        self.assertIsNone(found)
                    self.assertIs(is_parted_ways(web, world, u, v, found), bool(parted))
                self.assertEqual(parted_pairs(web, world), pairs)

    def test_judging_all_pairs_of_ways(self):
        chooser = random.Random(9)
        for web in some_webs(25, 5, 7):
            world = some_world(web, chooser)
            places = list(itertools.product(range(web.places), repeat=2))
            every = [way for u, v in places for way in plain_ways(web, u, v)]
            for u, v in places:
                parted = plain_parted(web, world, u, v)
                for pair in itertools.product(every, repeat=2):
                    self.assertIs(is_parted_ways(web, world, u, v, pair), pair in parted)

    def test_judging_any_object(self):
        self.assertIs(is_parted_ways(T, W, 0, 3, ((0, 2), (0, 4, 3))), True)
        for thing in (*WRONG_TUPLES, [(0, 2), (0, 4, 3)], ([0, 2], (0, 4, 3)), ((0, 2), (0, 4, 3), (1, 3)),
                      ((0, 2),), ((0, 4, 3), (0, 2)), ((0, 2), (0, 2)), ((0, 4), (1,)), ((2,), (4, 3))):
            self.assertIs(is_parted_ways(T, W, 0, 3, thing), False)
            self.assertIs(is_parted_ways(T, W, 0, 3, (thing, (1, 3))), False)
            self.assertIs(is_parted_ways(T, W, 0, 3, ((0, 2), thing)), False)

    def test_none_is_no_pair_of_ways(self):
        self.assertIs(is_parted_ways(T, W, 3, 0, None), False)

    def test_errors_in_their_order(self):
        calls = (parted_ways, lambda web, world, u, v: is_parted_ways(web, world, u, v, None))
        for called in calls:
            for place in (4, *WRONG_NUMBERS):
                with self.assertRaises(NoPlace):
                    called(T, W, place, 3)
                with self.assertRaises(NoPlace):
                    called(T, W, 0, place)
                with self.assertRaises(NoWorld):
                    called(T, None, place, place)

    def test_new_lists_each_time(self):
        parted_pairs(T, W).append(None)
        self.assertEqual(parted_pairs(T, W), [(0, 2), (0, 3), (1, 3)])
        parted_pairs(Web(1, ()), ((3,), ())).append(None)
        self.assertEqual(parted_pairs(Web(1, ()), ((3,), ())), [])


def turning_world(web):
    """Two things everywhere, kept by the even arrows and exchanged by the odd ones."""
    return ((2,) * web.places, tuple((1, 0) if arrow & 1 else (0, 1) for arrow in range(len(web.arrows))))


class ManyWaysTest(unittest.TestCase):
    def test_a_double_row(self):
        web = double_row(59)
        world = turning_world(web)
        self.assertEqual(parted_pairs(web, world), list(itertools.combinations(range(60), 2)))
        found = parted_ways(web, world, 0, 59)
        self.assertIs(is_parted_ways(web, world, 0, 59, found), True)
        self.assertIs(agree(web, world, *found), False)
        one = tuple(range(0, 118, 2))
        self.assertEqual(parted_thing(web, world, one, (1, *one[1:])), 0)
        self.assertIsNone(parted_thing(web, world, one, (1, 3, *one[2:])))
        self.assertIs(is_parted_ways(web, world, 0, 59, (one, (1, *one[1:]))), True)
        self.assertIs(is_parted_ways(web, world, 0, 59, (one, (1, 3, *one[2:]))), False)
        checks = [(one, (1, *one[1:])), (one, (1, 3, *one[2:])), ((0,), (1,))]
        self.assertEqual(failed(web, world, checks), (0, 2))

    def test_a_double_row_that_parts_once(self):
        web = double_row(59)
        tables = [(0, 1)] * 118
        tables[61] = (1, 0)
        world = ((2,) * 60, tuple(tables))
        expected = [(u, v) for u, v in itertools.combinations(range(60), 2) if u <= 30 < v]
        self.assertEqual(parted_pairs(web, world), expected)
        found = parted_ways(web, world, 0, 59)
        self.assertEqual([way.count(61) for way in found].count(1), 1)
        self.assertIs(is_parted_ways(web, world, 0, 59, found), True)
        self.assertIsNone(parted_ways(web, world, 0, 30))

    def test_a_wide_web_where_nothing_parts(self):
        web = wide_web()
        same = ((3,) * 60, ((2, 0, 1),) * 400)
        self.assertEqual(parted_pairs(web, same), [])
        self.assertIsNone(parted_ways(web, same, 0, 59))
        self.assertEqual(len(parted_pairs(web, turning_world(web))), 60 * 59 // 2)

    def test_great_sizes_where_nothing_begins(self):
        world = ((1, 2, GREAT), ((0,), (1,), (GREAT - 1, 0)))
        self.assertEqual(parted_pairs(S, world), [(0, 1), (0, 2)])
        self.assertEqual(parted_ways(S, world, 0, 2), ((0, 2), (1, 2)))
        self.assertIsNone(parted_ways(S, world, 2, 0))
        self.assertIsNone(parted_ways(S, world, 2, 2))
        self.assertEqual(failed(S, world, [((0,), (1,)), ((0, 2), (1, 2))]), (0, 1))
        self.assertEqual(parted_thing(S, world, (0, 2), (1, 2)), 0)
        self.assertEqual(parted_pairs(Web(2, ()), ((GREAT, GREAT), ())), [])

    def test_webs_beyond_the_bounds_of_constructing(self):
        web = beside(wide_web(), floor(row_web(12), row_web(12)))
        self.assertEqual((web.places, len(web.arrows)), (204, 664))
        world = turning_world(web)
        self.assertIs(is_world(web, world), True)
        found = parted_ways(web, world, 0, 59)
        self.assertIs(is_parted_ways(web, world, 0, 59, found), True)
        self.assertEqual(ends(web, found[0]), (0, 59))
        self.assertIsNone(parted_ways(web, world, 0, 60))

    def test_agreeing_of_alike_ways_of_d(self):
        self.assertEqual(parted_pairs(D, ((1, 1, 1, 2), ((0,), (0,), (0,), (1,)))), [(0, 3)])


if __name__ == "__main__":
    unittest.main()
