"""7.1, 1.4 with 7.1, and what 0.2 to 0.5 say of enoughchecks/leasts.py."""

import itertools
import math
import random
import unittest

from enoughchecks.changes import beside, cube, floor, mirrored
from enoughchecks.enough import enough, further, lacking, spare, tidied
from enoughchecks.leasts import is_least, least_list, least_number, least_pairs
from enoughchecks.webs import Web
from tests.support import C, D, H, ODD_TUPLES, S, T, WRONG_TUPLES, double_row, plain_checks, plain_clusters, plain_ways
from tests.support import plainly_enough, row_web, some_webs, wide_web

ONE_WAY_AT_MOST = (Web(1, ()), Web(60, ()), row_web(60), Web(3, ((0, 1), (0, 2))))
EVERY_OF_H = [((0,), (1,)), ((0,), (2,)), ((1,), (2,))]


def tiny_webs(most=7):
    """Webs with few checks, so that all lists of them can be tried."""
    return [web for web in some_webs(200, 5, 7) if len(plain_checks(web)) <= most]


def plain_leasts(web):
    """All least lists, ascending, found by trying all ascending tuples of checks, the shortest first."""
    every = plain_checks(web)
    for many in range(len(every) + 1):
        found = [lot for lot in itertools.combinations(every, many) if plainly_enough(web, lot)]
        if found:
            return found
    return []


def empty_pairs(web):
    """The pairs of places between which arrows lead, but no other way."""
    return {pair for pair in web.arrows if all(len(way) == 1 for way in plain_ways(web, *pair))}


class LeastNumberTest(unittest.TestCase):
    def test_of_the_examples(self):
        self.assertEqual(least_number(T), 2)
        self.assertEqual(least_number(H), 2)
        self.assertEqual(least_number(D), 1)
        self.assertEqual(least_number(S), 1)
        self.assertEqual(least_number(cube(3)), 6)
        self.assertEqual(least_pairs(T), [(0, 2, 2), (1, 3, 2)])
        self.assertEqual(least_pairs(H), [(0, 1, 3)])
        self.assertEqual(least_pairs(S), [(0, 1, 2)])

    def test_against_trying_all_lists(self):
        for web in tiny_webs():
            self.assertEqual(least_number(web), len(plain_leasts(web)[0]))

    def test_against_plain_clusters(self):
        for web in some_webs(100, 7, 14):
            many = {pair: len(plain_clusters(web, *pair))
                    for pair in itertools.product(range(web.places), repeat=2)}
            expected = [(u, v, count) for (u, v), count in sorted(many.items()) if count > 1]
            self.assertEqual(least_pairs(web), expected)
            self.assertEqual(least_number(web), sum(count - 1 for _, _, count in expected))
            self.assertEqual(least_number(web), lacking(web, []))

    def test_the_third_fact(self):
        chooser = random.Random(81)
        for web in some_webs(60):
            checks = [*further(web, []), *plain_checks(web)]
            checks = list(dict.fromkeys(checks))
            chooser.shuffle(checks)
            kept = [checks[k] for k in tidied(web, checks)]
            self.assertEqual(spare(web, kept), ())
            self.assertEqual(len(kept), least_number(web))
            self.assertIs(is_least(web, tuple(sorted(kept))), True)

    def test_of_webs_without_two_clusters(self):
        for web in ONE_WAY_AT_MOST:
            self.assertEqual(least_number(web), 0)
            self.assertEqual(least_pairs(web), [])
            self.assertEqual(least_list(web), ())
            self.assertIs(is_least(web, ()), True)
            self.assertIs(is_least(web, []), False)

    def test_the_list_is_new(self):
        found = least_pairs(T)
        found.append(None)
        self.assertEqual(least_pairs(T), [(0, 2, 2), (1, 3, 2)])
        self.assertIs(type(least_pairs(T)), list)
        self.assertTrue(all(type(triple) is tuple for triple in least_pairs(T)))

    def test_of_webs_with_more_ways_than_could_be_listed(self):
        web = double_row(59)
        self.assertEqual(least_number(web), 59)
        self.assertEqual(least_pairs(web), [(k, k + 1, 2) for k in range(59)])
        web = wide_web()
        self.assertEqual(least_number(web), 400 - 59)
        self.assertEqual(least_pairs(web), [(k, k + 1, 7 if k < 46 else 6) for k in range(59)])
        self.assertEqual(least_pairs(Web(2, ((1, 0),) * 400)), [(1, 0, 400)])


class MadeWebsTest(unittest.TestCase):
    def test_cubes(self):
        for n in range(7):
            squares = math.comb(n, 2) * 2 ** n // 4
            self.assertEqual(least_number(cube(n)), squares)
            pairs = [(k, k + (1 << i) + (1 << j), 2) for k in range(1 << n)
                     for i, j in itertools.combinations(range(n), 2) if not k >> i & 1 and not k >> j & 1]
            self.assertEqual(least_pairs(cube(n)), sorted(pairs))

    def test_webs_beside_one_another(self):
        chooser = random.Random(82)
        webs = some_webs(40)
        for _ in range(40):
            web, other_web = chooser.sample(webs, 2)
            both = beside(web, other_web)
            self.assertEqual(least_number(both), least_number(web) + least_number(other_web))
            shifted = [(u + web.places, v + web.places, many) for u, v, many in least_pairs(other_web)]
            self.assertEqual(least_pairs(both), least_pairs(web) + shifted)

    def test_floors(self):
        chooser = random.Random(83)
        webs = some_webs(40, 5, 6)
        for _ in range(40):
            web, other_web = chooser.sample(webs, 2)
            size = other_web.places
            pairs = [(u * size + q, v * size + q, many) for u, v, many in least_pairs(web) for q in range(size)]
            pairs += [(p * size + u, p * size + v, many) for u, v, many in least_pairs(other_web)
                      for p in range(web.places)]
            # A square of arrows is two clusters, but only where nothing else lies between in either web.
            pairs += [(p * size + q, after * size + behind, 2) for p, after in empty_pairs(web)
                      for q, behind in empty_pairs(other_web)]
            self.assertEqual(least_pairs(floor(web, other_web)), sorted(pairs))

    def test_mirrored_webs(self):
        for web in some_webs(40):
            self.assertEqual(least_pairs(mirrored(web)), sorted((v, u, many) for u, v, many in least_pairs(web)))


class LeastListTest(unittest.TestCase):
    def test_of_the_examples(self):
        self.assertEqual(least_list(T), (((0, 4), (1,)), ((2,), (4, 3))))
        self.assertEqual(least_list(H), (((0,), (1,)), ((0,), (2,))))
        self.assertEqual(least_list(D), (((0, 2), (1, 3)),))
        self.assertEqual(least_list(S), (((0,), (1,)),))

    def test_against_trying_all_lists(self):
        for web in tiny_webs():
            self.assertEqual(least_list(web), min(plain_leasts(web)))

    def test_against_taking_the_least_checks_one_by_one(self):
        for web in some_webs(60, 6, 11):
            kept = []
            for check in plain_checks(web):
                if lacking(web, [*kept, check]) < lacking(web, kept):
                    kept.append(check)
            self.assertEqual(least_list(web), tuple(kept))

    def test_the_least_way_need_not_lie_in_the_first_cluster(self):
        web = Web(4, ((0, 1), (1, 2), (0, 2), (0, 3), (3, 2)))
        self.assertEqual(least_list(web), (((0, 1), (2,)), ((0, 1), (3, 4))))
        web = Web(4, ((0, 3), (0, 2), (0, 1), (3, 2), (1, 2)))
        self.assertEqual(least_list(web), (((0, 3), (1,)), ((0, 3), (2, 4))))

    def test_of_webs_with_more_ways_and_checks_than_could_be_listed(self):
        for web in (double_row(59), wide_web(), cube(6), Web(2, ((1, 0),) * 400), floor(cube(3), double_row(7))):
            found = least_list(web)
            self.assertIs(type(found), tuple)
            self.assertEqual(len(found), least_number(web))
            self.assertIs(is_least(web, found), True)
            self.assertIs(is_least(web, found[1:]), False)
        self.assertEqual(least_list(double_row(59)), tuple(((2 * k,), (2 * k + 1,)) for k in range(59)))
        self.assertEqual(least_list(Web(2, ((1, 0),) * 400)), tuple(((0,), (k,)) for k in range(1, 400)))


class IsLeastTest(unittest.TestCase):
    def test_all_tuples_of_checks_of_tiny_webs(self):
        for web in tiny_webs(6):
            leasts = plain_leasts(web)
            every = plain_checks(web)
            for many in range(len(every) + 1):
                for lot in itertools.combinations(every, many):
                    self.assertIs(is_least(web, lot), lot in leasts)
                    self.assertIs(is_least(web, list(lot)), False)

    def test_only_ascending_tuples(self):
        for lot in itertools.permutations(EVERY_OF_H, 2):
            self.assertIs(is_least(H, lot), lot == tuple(sorted(lot)))
        self.assertIs(is_least(H, tuple(EVERY_OF_H)), False)
        self.assertIs(is_least(H, (EVERY_OF_H[0],) * 2), False)
        self.assertIs(is_least(H, (EVERY_OF_H[0],)), False)
        self.assertIs(is_least(H, ()), False)

    def test_so_many_checks_that_are_not_enough(self):
        across = ((0, 2), (1, 3))
        self.assertIs(is_least(T, (across, C[1])), False)
        self.assertIs(is_least(T, (across, *C)), False)
        self.assertIs(enough(T, (across, *C)), True)
        self.assertIs(is_least(T, tuple(C)), True)

    def test_wrong_things(self):
        good = tuple(C)
        for thing in (*WRONG_TUPLES, C, (good,), (*good, None), (good[0], list(good[1])), (good[0], good[1][::-1]),
                      (good[0], ((2,), (4, True))), (((False, 4), (1,)), good[1]), (((0, 4), [1]), good[1]),
                      (good[0], ((2,), (4, 4))), (good[0], ((2,), (4, 5))), (good[0], ((2,), (3,)))):
            self.assertIs(is_least(T, thing), False)
        for thing in (*WRONG_TUPLES, (True,), (False, True)):
            self.assertIs(is_least(Web(1, ()), thing), type(thing) is tuple and thing == ())
        for thing in ODD_TUPLES:
            self.assertIs(is_least(T, (C[0], thing)), False)
            self.assertIs(is_least(T, (thing, C[1])), False)


if __name__ == "__main__":
    unittest.main()
