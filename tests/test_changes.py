"""1.4 and what 0.2 to 0.5 say of enoughchecks/changes.py."""

import itertools
import math
import unittest

from enoughchecks.changes import beside, cube, floor, mirrored, numbered, with_arrow, without_arrow
from enoughchecks.errors import BadWeb, NoArrow, NoNumber, NoOrder, NoPlace
from enoughchecks.ways import ways, ways_many
from enoughchecks.webs import Web, reached, reaching
from tests.support import D, H, S, T, WRONG_NUMBERS, WRONG_TUPLES, row_web, some_webs, wide_web


class MirroredTest(unittest.TestCase):
    def test_of_t(self):
        self.assertEqual(mirrored(T), Web(4, ((1, 0), (2, 0), (3, 1), (3, 2), (2, 1))))
        self.assertEqual(mirrored(Web(1, ())), Web(1, ()))

    def test_ways_go_back(self):
        for web in some_webs():
            twin = mirrored(web)
            self.assertEqual(mirrored(twin), web)
            for u in range(web.places):
                self.assertEqual(reached(twin, u), reaching(web, u))
                for v in range(web.places):
                    self.assertEqual(ways(twin, v, u), sorted(way[::-1] for way in ways(web, u, v)))


class NumberedTest(unittest.TestCase):
    def test_place_k_gets_the_number_order_k(self):
        # An order that is not its own undoing tells which way round it is meant.
        self.assertEqual(numbered(S, (1, 2, 0)), Web(3, ((1, 2), (1, 2), (2, 0))))
        self.assertEqual(numbered(T, (0, 1, 2, 3)), T)
        self.assertEqual(numbered(Web(1, ()), (0,)), Web(1, ()))

    def test_each_order_keeps_the_ways(self):
        for order in itertools.permutations(range(4)):
            twin = numbered(T, order)
            for u in range(4):
                for v in range(4):
                    self.assertEqual(ways(twin, order[u], order[v]), ways(T, u, v))

    def test_no_order(self):
        for order in (*WRONG_TUPLES, (0, 1, 2), (0, 1, 2, 2), (0, 1, 2, 4), (1, 2, 3, 4), (0, 1, 2, 3, 3), (-1, 0, 1, 2),
                      (0, 1, 2, 3, 4), [0, 1, 2, 3], (0, 1, 2, None), (0, 1, 2, "3"), (0, 1, 2, (3,)),
                      (0, 1, 2, [3]), (10 ** 59, 1, 2, 3), range(4), {0: 0, 1: 1, 2: 2, 3: 3}):
            with self.assertRaises(NoOrder):
                numbered(T, order)

    def test_flags_in_orders(self):
        self.assertEqual(numbered(Web(2, ()), (1, 0)), Web(2, ()))
        for order in ((True, 0), (1, False), (False, True), (0, True)):
            with self.assertRaises(NoOrder):
                numbered(Web(2, ()), order)
        with self.assertRaises(NoOrder):
            numbered(Web(1, ()), (False,))


class ArrowTest(unittest.TestCase):
    def test_with_arrow(self):
        self.assertEqual(with_arrow(D, 1, 2), T)
        self.assertEqual(with_arrow(H, 0, 1), Web(2, ((0, 1),) * 4))
        self.assertEqual(with_arrow(D, 2, 1), Web(4, (*D.arrows, (2, 1))))
        self.assertEqual(with_arrow(Web(3, ()), 2, 0), Web(3, ((2, 0),)))

    def test_with_arrow_that_would_close_a_ring(self):
        for u, v in ((1, 0), (3, 0), (3, 1), (2, 1), (3, 2), (2, 0)):
            with self.assertRaises(NoArrow):
                with_arrow(T, u, v)
        with self.assertRaises(NoArrow):
            with_arrow(row_web(60), 59, 0)

    def test_with_arrow_that_begins_where_it_ends(self):
        for place in range(4):
            with self.assertRaises(NoArrow):
                with_arrow(T, place, place)
        with self.assertRaises(NoArrow):
            with_arrow(Web(1, ()), 0, 0)

    def test_with_arrow_just_where_a_web_can_be_constructed(self):
        for web in some_webs():
            for u in range(web.places):
                for v in range(web.places):
                    arrows = (*web.arrows, (u, v))
                    try:
                        expected = Web(web.places, arrows)
                    except BadWeb:
                        with self.assertRaises(NoArrow):
                            with_arrow(web, u, v)
                    else:
                        self.assertEqual(with_arrow(web, u, v), expected)

    def test_with_arrow_no_place(self):
        for place in (4, *WRONG_NUMBERS):
            with self.assertRaises(NoPlace):
                with_arrow(T, place, 0)
            with self.assertRaises(NoPlace):
                with_arrow(T, 0, place)
            with self.assertRaises(NoPlace):
                with_arrow(T, place, place)

    def test_with_arrow_beyond_400(self):
        more = with_arrow(wide_web(), 0, 59)
        self.assertEqual(len(more.arrows), 401)
        self.assertEqual(more.arrows[400], (0, 59))
        self.assertEqual(without_arrow(more, 400), wide_web())
        self.assertEqual(len(with_arrow(more, 0, 1).arrows), 402)

    def test_without_arrow(self):
        self.assertEqual(without_arrow(T, 4), D)
        self.assertEqual(without_arrow(T, 0), Web(4, ((0, 2), (1, 3), (2, 3), (1, 2))))
        self.assertEqual(without_arrow(T, 2), Web(4, ((0, 1), (0, 2), (2, 3), (1, 2))))
        self.assertEqual(without_arrow(Web(2, ((1, 0),)), 0), Web(2, ()))

    def test_without_arrow_no_arrow(self):
        for arrow in (5, *WRONG_NUMBERS):
            with self.assertRaises(NoArrow):
                without_arrow(T, arrow)
        with self.assertRaises(NoArrow):
            without_arrow(Web(2, ()), 0)
        for flag in (True, False):
            with self.assertRaises(NoArrow):
                without_arrow(H, flag)


class TwoWebsTest(unittest.TestCase):
    def test_beside(self):
        self.assertEqual(beside(S, H), Web(5, ((0, 1), (0, 1), (1, 2), (3, 4), (3, 4), (3, 4))))
        self.assertEqual(beside(H, S), Web(5, ((0, 1), (0, 1), (0, 1), (2, 3), (2, 3), (3, 4))))
        self.assertEqual(beside(Web(1, ()), Web(1, ())), Web(2, ()))

    def test_floor(self):
        one = Web(2, ((0, 1),))
        other = Web(3, ((0, 1), (2, 1)))
        self.assertEqual(floor(one, other),
                         Web(6, ((0, 3), (1, 4), (2, 5), (0, 1), (2, 1), (3, 4), (5, 4))))
        self.assertEqual(floor(other, one),
                         Web(6, ((0, 2), (1, 3), (4, 2), (5, 3), (0, 1), (2, 3), (4, 5))))
        self.assertEqual(floor(Web(1, ()), T), T)
        self.assertEqual(floor(T, Web(1, ())), T)
        self.assertEqual(floor(H, H).arrows, ((0, 2), (1, 3)) * 3 + ((0, 1),) * 3 + ((2, 3),) * 3)

    def test_floor_sizes_and_ways(self):
        for one in some_webs(8):
            for other in some_webs(8):
                both = floor(one, other)
                self.assertEqual(both.places, one.places * other.places)
                many = len(one.arrows) * other.places + len(other.arrows) * one.places
                self.assertEqual(len(both.arrows), many)
                for p in range(one.places):
                    for q in range(other.places):
                        expected = tuple(i * other.places + j for i in reached(one, p) for j in reached(other, q))
                        self.assertEqual(reached(both, p * other.places + q), expected)

    def test_beyond_the_bounds_of_constructing(self):
        self.assertEqual(beside(wide_web(), wide_web()).places, 120)
        self.assertEqual(len(beside(wide_web(), wide_web()).arrows), 800)
        rows = floor(row_web(60), row_web(60))
        self.assertEqual((rows.places, len(rows.arrows)), (3600, 7080))
        self.assertEqual(ways_many(rows, 0, 3599), math.comb(118, 59))
        self.assertEqual(mirrored(mirrored(rows)), rows)
        self.assertEqual(numbered(rows, tuple(reversed(range(3600)))).arrows[0], (3599, 3539))
        with self.assertRaises(NoArrow):
            with_arrow(rows, 3599, 0)


class CubeTest(unittest.TestCase):
    def test_the_least_ones(self):
        self.assertEqual(cube(0), Web(1, ()))
        self.assertEqual(cube(1), Web(2, ((0, 1),)))
        self.assertEqual(cube(2), Web(4, ((0, 2), (1, 3), (0, 1), (2, 3))))

    def test_each_is_the_floor_of_the_one_ahead_and_an_arrow(self):
        for n in range(1, 7):
            self.assertEqual(cube(n), floor(cube(n - 1), Web(2, ((0, 1),))))
            self.assertEqual((cube(n).places, len(cube(n).arrows)), (2 ** n, n * 2 ** (n - 1)))
            self.assertEqual(ways_many(cube(n), 0, 2 ** n - 1), math.factorial(n))

    def test_cube_6_is_beyond_60_places(self):
        self.assertEqual(cube(6).places, 64)
        self.assertEqual(len(cube(6).arrows), 192)
        self.assertEqual(len(ways(cube(6), 0, 63)), 720)
        self.assertEqual(reached(cube(6), 0), tuple(range(64)))
        with self.assertRaises(BadWeb):
            Web(cube(6).places, cube(6).arrows)

    def test_no_number(self):
        for n in (7, *WRONG_NUMBERS):
            with self.assertRaises(NoNumber):
                cube(n)


class KeptTest(unittest.TestCase):
    def test_the_webs_that_are_passed_stay_as_they_were(self):
        for web in some_webs(20):
            places, arrows = web.places, web.arrows
            mirrored(web)
            numbered(web, tuple(reversed(range(places))))
            beside(web, web)
            floor(web, web)
            for arrow in range(len(arrows)):
                without_arrow(web, arrow)
            self.assertEqual((web.places, web.arrows), (places, arrows))

    def test_all_results_are_webs_of_tuples(self):
        results = [mirrored(T), numbered(T, (3, 2, 1, 0)), with_arrow(D, 1, 2), without_arrow(T, 0), beside(T, S),
                   floor(T, S), cube(6)]
        for web in results:
            self.assertIs(type(web), Web)
            self.assertEqual(set(vars(web)), set(vars(T)))
            self.assertIs(type(web.arrows), tuple)
            for pair in web.arrows:
                self.assertEqual([type(pair), type(pair[0]), type(pair[1])], [tuple, int, int])


if __name__ == "__main__":
    unittest.main()
