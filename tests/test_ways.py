"""1.3 and what 0.2 to 0.5 say of enoughchecks/ways.py."""

import math
import unittest

from enoughchecks.changes import cube, floor, with_arrow
from enoughchecks.errors import NoNumber, NoPlace, NoWay, TooMany
from enoughchecks.ways import every_way, way_at, way_number, ways, ways_in_all, ways_many
from enoughchecks.webs import Web, ends, is_way
from tests.support import D, H, S, T, WRONG_NUMBERS, WRONG_TUPLES, double_row, plain_ways, row_web, some_webs, ways_of
from tests.support import wide_web

# 13 places behind the first one are passed by 7 or 6 arrows each, so that these are ways from 0 to 59.
WIDE_MANY = 7 ** 46 * 6 ** 13


class WaysTest(unittest.TestCase):
    def test_of_the_examples(self):
        self.assertEqual(ways(T, 0, 3), [(0, 2), (0, 4, 3), (1, 3)])
        self.assertEqual(ways(D, 0, 3), [(0, 2), (1, 3)])
        self.assertEqual(ways(H, 0, 1), [(0,), (1,), (2,)])
        self.assertEqual(ways(S, 0, 2), [(0, 2), (1, 2)])
        self.assertEqual(ways_many(T, 0, 3), 3)
        self.assertEqual(ways_many(cube(3), 0, 7), 6)

    def test_no_way(self):
        for web in some_webs():
            for u in range(web.places):
                self.assertEqual(ways(web, u, u), [])
                self.assertEqual(ways_many(web, u, u), 0)
        self.assertEqual(ways(T, 3, 0), [])
        self.assertEqual(ways_many(T, 3, 0), 0)
        self.assertEqual(ways(D, 1, 2), [])
        self.assertEqual(ways(Web(1, ()), 0, 0), [])

    def test_ascending_by_arrows_not_by_places(self):
        web = Web(4, ((2, 3), (0, 2), (0, 1), (1, 3), (0, 3), (1, 2)))
        self.assertEqual(ways(web, 0, 3), [(1, 0), (2, 3), (2, 5, 0), (4,)])

    def test_against_plain_ways(self):
        for web in some_webs():
            for u in range(web.places):
                for v in range(web.places):
                    expected = plain_ways(web, u, v)
                    found = ways(web, u, v)
                    self.assertEqual(found, expected)
                    self.assertIs(type(found), list)
                    self.assertTrue(all(type(way) is tuple for way in found))
                    self.assertEqual(ways_many(web, u, v), len(expected))

    def test_1500_ways_and_one_more(self):
        most = Web(3, ((0, 1),) * 30 + ((1, 2),) * 50)
        self.assertEqual(ways_many(most, 0, 2), 1500)
        found = ways(most, 0, 2)
        self.assertEqual(len(found), 1500)
        self.assertEqual(found, sorted(set(found)))
        self.assertEqual((found[0], found[-1]), ((0, 30), (29, 79)))
        more = with_arrow(most, 0, 2)
        self.assertEqual(ways_many(more, 0, 2), 1501)
        with self.assertRaises(TooMany) as caught:
            ways(more, 0, 2)
        self.assertEqual(caught.exception.most, 1500)
        self.assertEqual(len(ways(more, 0, 1)), 30)
        self.assertEqual(way_at(more, 0, 2, 1500), (80,))
        self.assertEqual(way_number(more, (80,)), 1500)

    def test_far_more_than_could_be_listed(self):
        web = wide_web()
        self.assertEqual(len(web.arrows), 400)
        self.assertEqual(ways_many(web, 0, 59), WIDE_MANY)
        with self.assertRaises(TooMany):
            ways(web, 0, 59)
        self.assertEqual(ways(web, 59, 0), [])
        self.assertEqual(ways_many(double_row(59), 0, 59), 2 ** 59)
        self.assertEqual(len(ways(double_row(59), 20, 30)), 1024)
        with self.assertRaises(TooMany):
            ways(double_row(59), 20, 31)

    def test_new_lists_each_time(self):
        first = ways(T, 0, 3)
        first.append(None)
        first[0] = None
        self.assertEqual(ways(T, 0, 3), [(0, 2), (0, 4, 3), (1, 3)])
        nothing = ways(T, 3, 3)
        nothing.append(None)
        self.assertEqual(ways(T, 3, 3), [])

    def test_no_place(self):
        for place in (4, *WRONG_NUMBERS):
            for called in (ways_many, ways):
                with self.assertRaises(NoPlace):
                    called(T, place, 0)
                with self.assertRaises(NoPlace):
                    called(T, 0, place)
                with self.assertRaises(NoPlace):
                    called(T, place, place)

    def test_webs_beyond_the_bounds_of_constructing(self):
        long = floor(row_web(60), row_web(30))
        self.assertEqual(long.places, 1800)
        many = ways_many(long, 0, 1799)
        self.assertEqual(many, math.comb(88, 29))
        last = way_at(long, 0, 1799, many - 1)
        self.assertEqual(len(last), 88)
        self.assertEqual(way_number(long, last), many - 1)


class NumbersTest(unittest.TestCase):
    def test_each_undoes_the_other(self):
        for web in some_webs():
            for u in range(web.places):
                for v in range(web.places):
                    for number, way in enumerate(plain_ways(web, u, v)):
                        self.assertEqual(way_at(web, u, v, number), way)
                        self.assertEqual(way_number(web, way), number)

    def test_where_there_are_far_more_than_could_be_listed(self):
        web = wide_web()
        for number in (0, 1, 12345678901234567890, WIDE_MANY // 2, WIDE_MANY - 1):
            way = way_at(web, 0, 59, number)
            self.assertTrue(is_way(web, way))
            self.assertEqual(ends(web, way), (0, 59))
            self.assertEqual(way_number(web, way), number)
        self.assertEqual(way_at(web, 0, 59, 0), tuple(range(0, 354, 6)))
        # Of two ways next to each other the lesser number belongs to the lesser way.
        near = [way_at(web, 0, 59, WIDE_MANY // 3 + step) for step in range(20)]
        self.assertEqual(near, sorted(near))

    def test_a_double_row_counts_in_twos(self):
        web = double_row(59)
        number = 0b101 * 2 ** 50 + 0b11
        way = way_at(web, 0, 59, number)
        self.assertEqual([arrow % 2 for arrow in way], [int(sign) for sign in format(number, "059b")])

    def test_no_number(self):
        for number in (3, 10 ** 59, *WRONG_NUMBERS):
            with self.assertRaises(NoNumber):
                way_at(T, 0, 3, number)
        for number in (0, 1, -1):
            with self.assertRaises(NoNumber):
                way_at(T, 3, 0, number)
            with self.assertRaises(NoNumber):
                way_at(T, 2, 2, number)
        with self.assertRaises(NoNumber):
            way_at(wide_web(), 0, 59, WIDE_MANY)

    def test_flags_are_no_numbers(self):
        self.assertEqual(way_at(T, 0, 3, 1), (0, 4, 3))
        for flag in (True, False):
            with self.assertRaises(NoNumber):
                way_at(T, 0, 3, flag)

    def test_no_place_ahead_of_no_number(self):
        for place in (4, *WRONG_NUMBERS):
            for number in (0, 3, None):
                with self.assertRaises(NoPlace):
                    way_at(T, place, 3, number)
                with self.assertRaises(NoPlace):
                    way_at(T, 0, place, number)

    def test_no_way(self):
        for thing in (*WRONG_TUPLES, (5,), (-1,), (0, 3), (0, 2, 3), [0, 2], (0, True)):
            with self.assertRaises(NoWay):
                way_number(T, thing)


class WholeWebTest(unittest.TestCase):
    def test_all_ways_of_a_web(self):
        for web in some_webs(80):
            self.assertEqual(every_way(web), ways_of(web))
            self.assertEqual(ways_in_all(web), len(ways_of(web)))

    def test_how_many_where_they_could_not_be_listed(self):
        self.assertEqual(ways_in_all(row_web(60)), 59 * 60 // 2)
        self.assertEqual(ways_in_all(double_row(59)), sum(2 ** steps * (60 - steps) for steps in range(1, 60)))


if __name__ == "__main__":
    unittest.main()
