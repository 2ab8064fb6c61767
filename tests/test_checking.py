"""2.1 and what 0.2 to 0.5 say of enoughchecks/checking.py."""

import itertools
import random
import unittest

from enoughchecks.changes import beside, cube, floor
from enoughchecks.checking import are_checks, checks_many, is_check, need_checks
from enoughchecks.clusters import groups, holes
from enoughchecks.enough import enough, is_further, is_small_world, is_trees, lacking, small_world, trees
from enoughchecks.enough import further, spare, tidied
from enoughchecks.errors import NoChecks
from enoughchecks.ways import way_at
from enoughchecks.webs import Web, ends
from enoughchecks.worlds import failed
from tests.support import C, D, H, S, T, WRONG_TUPLES, double_row, plain_checks, plain_ways, row_web, some_webs
from tests.support import wide_web

T_WORLD = ((1, 1, 1, 1), ((0,),) * 5)
# Each call that takes checks, and so raises NoChecks for what is none; the last two want them to be enough, too.
FOR_ALL_CHECKS = [
    need_checks,
    lambda web, checks: failed(web, T_WORLD, checks),
    lambda web, checks: groups(web, checks, 0, 3),
    lambda web, checks: is_trees(web, checks, {}),
    lambda web, checks: is_small_world(web, checks, T_WORLD),
    lambda web, checks: is_further(web, checks, []),
    holes, enough, trees, small_world, lacking, further,
]
WITH_CHECKS = [*FOR_ALL_CHECKS, spare, tidied]
# Things that are nearly a check of T.
NO_CHECKS_OF_T = [
    ((1,), (0, 4)), ((1, 3), (0, 2)), ((0, 2), (0, 2)), ((1,), (1,)), ((0,), (1,)), ((0,), (2,)), ((0, 2), (1,)),
    ((0, 4, 3), (1, 4)), ((0, 2), (1, 3), (1, 3)), ((0, 2),), ((), (1,)), ((), ()), ((0, 2), ()), [(0, 4), (1,)],
    ([0, 4], [1]), ((0, 4), [1]), ([0, 4], (1,)), ((0, 4), 1), (0, (1,)), ((0, 4), (True,)), ((False, 4), (1,)),
    ((0, 5), (1,)), ((0, 4), (5,)), ((0, 4), (-4,)), ((0, -1), (1,)), ((0, 10 ** 59), (1,)), ((0, 4), None),
    (None, (1,)), ("04", "1"), {(0, 4): (1,)}, {0: (0, 4), 1: (1,)}, (((0, 4), (1,)),), [((0, 4), (1,))],
    ((3, 0), (4, 3)), ((0, 2), (2, 0)), (((0,), (4,)), ((1,),)),
]


class IsCheckTest(unittest.TestCase):
    def test_of_the_examples(self):
        for check in C:
            self.assertIs(is_check(T, check), True)
        self.assertIs(is_check(H, ((0,), (1,))), True)
        self.assertIs(is_check(S, ((0, 2), (1, 2))), True)
        self.assertIs(is_check(S, ((0,), (1,))), True)
        self.assertIs(is_check(T, ((0, 2), (0, 4, 3))), True)
        self.assertIs(is_check(T, ((0, 4, 3), (1, 3))), True)

    def test_what_is_nearly_one(self):
        for thing in NO_CHECKS_OF_T:
            self.assertIs(is_check(T, thing), False, thing)

    def test_any_object(self):
        for thing in (*WRONG_TUPLES, 2, (0, 1), ((0, 1), (1, 3))):
            self.assertIs(is_check(T, thing), False)
            self.assertIs(is_check(T, (thing, (1,))), False)
            self.assertIs(is_check(T, ((0, 4), thing)), False)
            self.assertIs(is_check(T, ((0, thing), (1,))), False)

    def test_just_the_pairs_of_unlike_ways_in_order(self):
        for web in some_webs(20, 5, 7):
            every = [way for u in range(web.places) for v in range(web.places) for way in plain_ways(web, u, v)]
            checks = set(plain_checks(web))
            for pair in itertools.product(every, repeat=2):
                self.assertIs(is_check(web, pair), pair in checks)

    def test_the_lesser_way_is_the_lesser_tuple_not_the_shorter_one(self):
        web = Web(3, ((1, 2), (0, 2), (0, 1)))
        self.assertIs(is_check(web, ((1,), (2, 0))), True)
        self.assertIs(is_check(web, ((2, 0), (1,))), False)

    def test_ways_of_many_arrows(self):
        web = wide_web()
        one, other = way_at(web, 0, 59, 0), way_at(web, 0, 59, 6 ** 59)
        self.assertIs(is_check(web, (one, other)), True)
        self.assertIs(is_check(web, (other, one)), False)


class ChecksTest(unittest.TestCase):
    def test_lists_and_tuples_of_unlike_checks(self):
        for checks in ([], (), C, tuple(C), C[:1], C[::-1], plain_checks(T), tuple(plain_checks(T))):
            self.assertIs(are_checks(T, checks), True)
            self.assertIsNone(need_checks(T, checks))
            for called in FOR_ALL_CHECKS:
                called(T, checks)

    def test_no_checks_for_a_wrong_item_wherever_it_stands(self):
        for called in WITH_CHECKS:
            for thing in NO_CHECKS_OF_T:
                for checks in ([thing], (thing,), [*C, thing], (thing, *C), [C[0], thing, C[1]]):
                    with self.assertRaises(NoChecks):
                        called(T, checks)

    def test_no_checks_for_one_check_twice(self):
        for called in WITH_CHECKS:
            for checks in ([C[0], C[0]], (C[0], C[0]), [*C, C[0]], (C[1], *C), [*plain_checks(T), C[1]]):
                with self.assertRaises(NoChecks):
                    called(T, checks)

    def test_no_checks_for_what_is_neither_list_nor_tuple(self):
        for called in WITH_CHECKS:
            for thing in (None, {}, {C[0]: 1}, "", "checks", 0, 1, True, False, iter(C), range(0), T, b"", {0: C[0]}):
                with self.assertRaises(NoChecks):
                    called(T, thing)

    def test_no_checks_for_a_single_check(self):
        # A check is a pair of tuples, but its items are ways, no checks.
        for called in WITH_CHECKS:
            with self.assertRaises(NoChecks):
                called(T, C[0])

    def test_checks_of_another_web(self):
        for called in (holes, enough, lacking, trees, small_world, further, spare, tidied):
            with self.assertRaises(NoChecks):
                called(D, C)

    def test_checks_are_not_changed(self):
        for called in WITH_CHECKS:
            checks = list(C)
            called(T, checks)
            self.assertEqual(checks, C)


class ChecksManyTest(unittest.TestCase):
    def test_of_the_examples(self):
        self.assertEqual(checks_many(T), 5)
        self.assertEqual(checks_many(D), 1)
        self.assertEqual(checks_many(H), 3)
        self.assertEqual(checks_many(S), 2)
        # Each of the six squares has two ways, and six ways lead through the cube.
        self.assertEqual(checks_many(cube(3)), 6 + 15)

    def test_webs_without_checks(self):
        for web in (Web(1, ()), Web(60, ()), Web(2, ((1, 0),)), row_web(60)):
            self.assertEqual(checks_many(web), 0)

    def test_against_listing_all(self):
        for web in some_webs():
            self.assertEqual(checks_many(web), len(plain_checks(web)))

    def test_far_more_than_could_be_listed(self):
        row = double_row(59)
        expected = sum((60 - steps) * (4 ** steps - 2 ** steps) // 2 for steps in range(1, 60))
        self.assertEqual(checks_many(row), expected)
        self.assertEqual(checks_many(Web(2, ((0, 1),) * 400)), 400 * 399 // 2)
        self.assertGreater(checks_many(wide_web()), 10 ** 90)
        self.assertEqual(checks_many(beside(wide_web(), row)), checks_many(wide_web()) + expected)

    def test_of_a_floor(self):
        self.assertEqual(checks_many(floor(Web(2, ((0, 1),)), Web(2, ((0, 1),)))), 1)


class EndsOfChecksTest(unittest.TestCase):
    def test_no_check_ends_where_it_begins(self):
        for web in some_webs(20):
            for one, other in plain_checks(web):
                u, v = ends(web, one)
                self.assertNotEqual(u, v)
                self.assertEqual(ends(web, other), (u, v))

    def test_order_of_the_checks_is_free(self):
        chooser = random.Random(3)
        every = plain_checks(T)
        for _ in range(10):
            chooser.shuffle(every)
            self.assertIs(are_checks(T, every), True)


if __name__ == "__main__":
    unittest.main()
