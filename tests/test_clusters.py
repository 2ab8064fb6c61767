"""4.1, 4.2 and what 0.2 to 0.5 say of enoughchecks/clusters.py."""

import itertools
import random
import unittest

from enoughchecks.changes import beside, cube, floor, mirrored
from enoughchecks.clusters import cluster_of, cluster_sizes, clusters, groups, holes, number_within, way_within
from enoughchecks.errors import NoChecks, NoPlace, NoWay
from enoughchecks.ways import way_at, ways, ways_many
from enoughchecks.webs import Web, between, reached
from tests.support import C, D, H, S, T, WRONG_NUMBERS, WRONG_TUPLES, double_row, held_together, plain_checks
from tests.support import plain_clusters, plain_groups, row_web, some_checks, some_webs, wide_web


def all_pairs(web):
    return list(itertools.product(range(web.places), repeat=2))


class ClustersTest(unittest.TestCase):
    def test_of_the_examples(self):
        self.assertEqual(clusters(D, 0, 3), [("places", (1,)), ("places", (2,))])
        self.assertEqual(clusters(T, 0, 3), [("places", (1, 2))])
        self.assertEqual(clusters(T, 0, 2), [("arrow", 1), ("places", (1,))])
        self.assertEqual(clusters(H, 0, 1), [("arrow", 0), ("arrow", 1), ("arrow", 2)])
        self.assertEqual(clusters(S, 0, 2), [("places", (1,))])
        self.assertEqual(clusters(cube(3), 0, 7), [("places", (1, 2, 3, 4, 5, 6))])

    def test_without_ways(self):
        for web in some_webs(20):
            for place in range(web.places):
                self.assertEqual(clusters(web, place, place), [])
                self.assertEqual(cluster_sizes(web, place, place), [])
                self.assertEqual(groups(web, [], place, place), [])
        for u, v in ((3, 0), (1, 0), (2, 1)):
            self.assertEqual(clusters(T, u, v), [])
            self.assertEqual(cluster_sizes(T, u, v), [])
            self.assertEqual(groups(T, C, u, v), [])
        self.assertEqual(clusters(Web(60, ()), 0, 59), [])

    def test_against_ways_that_touch(self):
        for web in some_webs(80, 7, 12):
            for u, v in all_pairs(web):
                expected = plain_clusters(web, u, v)
                told = [cluster for cluster, _ in expected]
                self.assertEqual(clusters(web, u, v), told)
                self.assertEqual(cluster_sizes(web, u, v), [len(lot) for _, lot in expected])
                for index, (_, lot) in enumerate(expected):
                    for way in lot:
                        self.assertEqual(cluster_of(web, way), index)

    def test_the_fact_by_places_that_reach_one_another(self):
        for web in some_webs(60, 8, 12):
            for u, v in all_pairs(web):
                inner = between(web, u, v)
                near = [(one, other) for one in inner for other in inner if other in reached(web, one)]
                lots = held_together(inner, near)
                told = [tuple(lot) for kind, lot in clusters(web, u, v) if kind == "places"]
                self.assertEqual(told, [tuple(lot) for lot in lots])

    def test_arrows_ahead_of_places_both_ascending(self):
        web = Web(6, ((5, 3), (0, 5), (0, 3), (0, 1), (1, 3), (0, 3), (4, 2), (0, 4), (2, 3)))
        self.assertEqual(clusters(web, 0, 3), [
            ("arrow", 2), ("arrow", 5), ("places", (1,)), ("places", (2, 4)), ("places", (5,))])
        self.assertEqual([cluster_of(web, way) for way in ((2,), (5,), (3, 4), (7, 6, 8), (1, 0))], [0, 1, 2, 3, 4])

    def test_places_that_touch_over_others_only(self):
        # 1 and 2 reach each other by no way, but both reach 3.
        web = Web(5, ((0, 1), (0, 2), (1, 3), (2, 3), (3, 4), (1, 4), (2, 4)))
        self.assertEqual(clusters(web, 0, 4), [("places", (1, 2, 3))])
        self.assertEqual(clusters(web, 0, 3), [("places", (1,)), ("places", (2,))])
        self.assertEqual(cluster_sizes(web, 0, 4), [4])

    def test_places_reached_that_do_not_reach_the_end_join_nothing(self):
        web = Web(5, ((0, 1), (0, 2), (1, 3), (2, 3), (1, 4), (2, 4)))
        self.assertEqual(clusters(web, 0, 3), [("places", (1,)), ("places", (2,))])
        back = Web(5, ((0, 1), (0, 2), (1, 3), (2, 3), (4, 1), (4, 2)))
        self.assertEqual(clusters(back, 0, 3), [("places", (1,)), ("places", (2,))])
        self.assertEqual(clusters(back, 4, 3), [("places", (1,)), ("places", (2,))])

    def test_mirrored_webs_have_the_same_places(self):
        for web in some_webs(30):
            for u, v in all_pairs(web):
                self.assertEqual(clusters(mirrored(web), v, u), clusters(web, u, v))

    def test_kinds(self):
        told = clusters(T, 0, 2)
        self.assertIs(type(told), list)
        for cluster in told:
            self.assertIs(type(cluster), tuple)
            self.assertEqual(len(cluster), 2)
        self.assertIs(type(clusters(T, 0, 3)[0][1]), tuple)
        self.assertIs(type(cluster_sizes(T, 0, 3)), list)
        self.assertIs(type(cluster_of(T, (1,))), int)

    def test_new_lists_each_time(self):
        for called in (lambda: clusters(T, 0, 2), lambda: cluster_sizes(T, 0, 2), lambda: clusters(T, 3, 0),
                       lambda: groups(T, C, 0, 2), lambda: holes(T, []), lambda: holes(T, C)):
            before = list(called())
            found = called()
            found.append(None)
            self.assertEqual(called(), before)


class ManyWaysTest(unittest.TestCase):
    def test_a_wide_web(self):
        web = wide_web()
        self.assertEqual(clusters(web, 0, 59), [("places", tuple(range(1, 59)))])
        self.assertEqual(cluster_sizes(web, 0, 59), [ways_many(web, 0, 59)])
        self.assertEqual(cluster_sizes(web, 0, 1), [1] * 7)
        for number in (0, ways_many(web, 0, 59) - 1):
            self.assertEqual(cluster_of(web, way_at(web, 0, 59, number)), 0)
        self.assertEqual(holes(web, []), [(place, place + 1) for place in range(59)])
        self.assertEqual(groups(web, [], 58, 59), [(k,) for k in range(6)])

    def test_two_double_rows_side_by_side(self):
        # From 0 over 1 to 29, and over 30 to 58, two arrows each time; both rows end at 59.
        steps = [(place, place + 1) for place in range(1, 29)] + [(place, place + 1) for place in range(30, 58)]
        steps += [(0, 1), (0, 30), (29, 59), (58, 59)]
        web = Web(60, tuple(step for step in steps for _ in range(2)) + ((0, 59),))
        self.assertEqual(clusters(web, 0, 59), [
            ("arrow", 120), ("places", tuple(range(1, 30))), ("places", tuple(range(30, 59)))])
        self.assertEqual(cluster_sizes(web, 0, 59), [1, 2 ** 30, 2 ** 30])
        one = way_at(web, 0, 59, 0)
        self.assertEqual(cluster_of(web, one), 1)
        self.assertEqual(cluster_of(web, way_at(web, 0, 59, 2 ** 31 - 1)), 2)
        self.assertEqual(cluster_of(web, (120,)), 0)
        check = (one, (120,))
        self.assertEqual(groups(web, [check], 0, 59), [(0, 1), (2,)])
        self.assertNotIn((0, 58), holes(web, [check]))
        self.assertIn((0, 59), holes(web, [check]))

    def test_a_double_row(self):
        web = double_row(59)
        for u, v in ((0, 59), (3, 5), (20, 50)):
            self.assertEqual(clusters(web, u, v), [("places", tuple(range(u + 1, v)))])
            self.assertEqual(cluster_sizes(web, u, v), [2 ** (v - u)])
        self.assertEqual(holes(web, []), [(place, place + 1) for place in range(59)])
        checks = [((2 * place,), (2 * place + 1,)) for place in range(59)]
        self.assertEqual(holes(web, checks), [])
        self.assertEqual(holes(web, checks[:30] + checks[31:]), [(30, 31)])

    def test_400_arrows_alike(self):
        web = Web(2, ((0, 1),) * 400)
        self.assertEqual(clusters(web, 0, 1), [("arrow", arrow) for arrow in range(400)])
        self.assertEqual(groups(web, [((k,), (399,)) for k in range(399)], 0, 1), [tuple(range(400))])
        self.assertEqual(groups(web, [((k,), (k + 2,)) for k in range(398)], 0, 1),
                         [tuple(range(0, 400, 2)), tuple(range(1, 400, 2))])

    def test_cubes(self):
        web = cube(6)
        self.assertEqual(cluster_sizes(web, 0, 63), [720])
        self.assertEqual(clusters(web, 0, 63), [("places", tuple(range(1, 63)))])
        squares = holes(web, [])
        self.assertEqual(len(squares), 240)
        self.assertTrue(all(len(clusters(web, u, v)) == 2 for u, v in squares))

    def test_webs_beyond_the_bounds_of_constructing(self):
        web = floor(row_web(30), row_web(20))
        self.assertEqual(web.places, 600)
        self.assertEqual(clusters(web, 0, 21), [("places", (1,)), ("places", (20,))])
        self.assertEqual(clusters(web, 0, 599), [("places", tuple(range(1, 599)))])
        self.assertEqual(cluster_sizes(web, 0, 599), [ways_many(web, 0, 599)])
        two = beside(wide_web(), wide_web())
        self.assertEqual(clusters(two, 60, 62), [("places", (61,))])
        self.assertEqual(clusters(two, 0, 60), [])
        self.assertEqual(len(holes(two, [])), 118)


class GroupsTest(unittest.TestCase):
    def test_of_t(self):
        self.assertEqual(groups(T, [], 0, 2), [(0,), (1,)])
        self.assertEqual(groups(T, C, 0, 2), [(0, 1)])
        self.assertEqual(groups(T, C[1:], 0, 2), [(0,), (1,)])
        self.assertEqual(groups(T, [((0, 2), (1, 3))], 0, 3), [(0,)])
        self.assertEqual(groups(T, [], 0, 3), [(0,)])
        self.assertEqual(groups(T, [], 0, 1), [(0,)])

    def test_held_together_over_others(self):
        web = Web(2, ((0, 1),) * 6)
        checks = [((0,), (3,)), ((3,), (5,)), ((1,), (4,))]
        for chosen in itertools.permutations(checks):
            self.assertEqual(groups(web, chosen, 0, 1), [(0, 3, 5), (1, 4), (2,)])
            self.assertEqual(groups(web, list(chosen), 0, 1), [(0, 3, 5), (1, 4), (2,)])
        self.assertEqual(groups(web, (), 0, 1), [(k,) for k in range(6)])

    def test_a_check_within_one_cluster_holds_nothing(self):
        web = Web(3, ((0, 2), (0, 1), (0, 1), (1, 2)))
        self.assertEqual(clusters(web, 0, 2), [("arrow", 0), ("places", (1,))])
        self.assertEqual(groups(web, [((1, 3), (2, 3))], 0, 2), [(0,), (1,)])
        self.assertEqual(groups(web, [((0,), (2, 3))], 0, 2), [(0, 1)])
        self.assertEqual(holes(web, [((0,), (2, 3))]), [(0, 1)])

    def test_checks_of_other_pairs_hold_nothing(self):
        # Both ways of the check go on to place 3, but it is of the pair (0, 2) alone.
        web = Web(4, ((0, 1), (0, 1), (1, 2), (0, 2), (2, 3), (0, 3)))
        self.assertEqual(groups(web, [((0, 2), (3,))], 0, 3), [(0,), (1,)])
        self.assertEqual(groups(web, [((0, 2, 4), (5,))], 0, 2), [(0,), (1,)])

    def test_against_listing_all_ways(self):
        chooser = random.Random(12)
        for web in some_webs(60, 6, 11):
            for _ in range(3):
                checks = some_checks(web, chooser, 8)
                expected = []
                for u, v in all_pairs(web):
                    lots = plain_groups(web, checks, u, v)
                    self.assertEqual(groups(web, checks, u, v), lots)
                    if len(lots) > 1:
                        expected.append((u, v))
                self.assertEqual(holes(web, checks), expected)
                self.assertEqual(holes(web, list(checks)[::-1]), expected)

    def test_errors_in_their_order(self):
        for checks in (None, [C[0], C[0]], C[0], {}, "ab", [None], [((1,), (0, 4))], 0):
            with self.assertRaises(NoChecks):
                groups(T, checks, 4, None)
            with self.assertRaises(NoChecks):
                holes(T, checks)
        for place in (4, *WRONG_NUMBERS):
            with self.assertRaises(NoPlace):
                groups(T, C, place, 0)
            with self.assertRaises(NoPlace):
                groups(T, C, 0, place)


class HolesTest(unittest.TestCase):
    def test_of_the_examples(self):
        self.assertEqual(holes(T, [((0, 2), (1, 3))]), [(0, 2), (1, 3)])
        self.assertEqual(holes(T, C), [])
        self.assertEqual(holes(T, tuple(C)), [])
        self.assertEqual(holes(T, C[::-1]), [])
        self.assertEqual(holes(T, C[:1]), [(1, 3)])
        self.assertEqual(holes(T, []), [(0, 2), (1, 3)])
        self.assertEqual(holes(D, []), [(0, 3)])
        self.assertEqual(holes(H, []), [(0, 1)])
        self.assertEqual(holes(S, [((0, 2), (1, 2))]), [(0, 1)])
        self.assertEqual(holes(S, [((0,), (1,))]), [])

    def test_ascending_whatever_the_numbers_of_the_places(self):
        web = Web(5, ((4, 3), (4, 3), (3, 2), (3, 2), (2, 1), (2, 1), (1, 0), (1, 0), (4, 0)))
        self.assertEqual(holes(web, []), [(1, 0), (2, 1), (3, 2), (4, 0), (4, 3)])

    def test_all_checks_leave_none(self):
        for web in some_webs(40):
            self.assertEqual(holes(web, plain_checks(web)), [])

    def test_webs_without_two_ways(self):
        for web in (Web(1, ()), Web(60, ()), row_web(60), Web(3, ((0, 1), (0, 2)))):
            self.assertEqual(holes(web, []), [])
            self.assertEqual(holes(web, ()), [])


class ErrorsTest(unittest.TestCase):
    def test_no_place(self):
        for called in (clusters, cluster_sizes):
            for place in (4, *WRONG_NUMBERS):
                with self.assertRaises(NoPlace):
                    called(T, place, 0)
                with self.assertRaises(NoPlace):
                    called(T, 0, place)
                with self.assertRaises(NoPlace):
                    called(T, place, place)

    def test_no_way(self):
        for thing in (*WRONG_TUPLES, (5,), (-1,), (0, 3), (0, 2, 3), [0, 2], (0, True)):
            with self.assertRaises(NoWay):
                cluster_of(T, thing)

    def test_listed_ways_fill_the_sizes(self):
        for web in some_webs(30):
            for u, v in all_pairs(web):
                homes = [cluster_of(web, way) for way in ways(web, u, v)]
                self.assertEqual([homes.count(k) for k in range(len(clusters(web, u, v)))], cluster_sizes(web, u, v))


class WithinTest(unittest.TestCase):
    def test_each_way_of_a_cluster_by_its_index(self):
        for web in some_webs(80):
            for u, v in all_pairs(web):
                for told, lot in plain_clusters(web, u, v):
                    self.assertEqual([way_within(web, u, v, told, number) for number in range(len(lot))], lot)
                    self.assertEqual([number_within(web, told, way) for way in lot], list(range(len(lot))))

    def test_where_they_could_not_be_listed(self):
        web = wide_web()
        told = clusters(web, 0, 59)[0]
        many = ways_many(web, 0, 59)
        for number in (0, 10 ** 40, many - 1):
            self.assertEqual(way_within(web, 0, 59, told, number), way_at(web, 0, 59, number))
            self.assertEqual(number_within(web, told, way_at(web, 0, 59, number)), number)


if __name__ == "__main__":
    unittest.main()
