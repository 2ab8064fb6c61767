"""7.2 and what 0.2 to 0.5 say of enoughchecks/counting.py."""

import itertools
import math
import random
import unittest

from enoughchecks.changes import beside, cube, floor
from enoughchecks.counting import least_at, least_index, least_many
from enoughchecks.errors import NoList, NoNumber
from enoughchecks.leasts import is_least, least_list
from enoughchecks.webs import Web
from tests.support import C, D, H, ODD_TUPLES, S, T, WRONG_NUMBERS, WRONG_TUPLES, double_row, plain_checks
from tests.support import plain_clusters, plainly_enough, row_web, some_webs, wide_web

ONE_WAY_AT_MOST = (Web(1, ()), Web(60, ()), row_web(60), Web(3, ((0, 1), (0, 2))))


def plain_many(web):
    """The product of the FACT, by listing all ways."""
    total = 1
    for u, v in itertools.product(range(web.places), repeat=2):
        sizes = [len(lot) for _, lot in plain_clusters(web, u, v)]
        if len(sizes) > 1:
            total *= sum(sizes) ** (len(sizes) - 2) * math.prod(sizes)
    return total


def plain_leasts(web, many):
    """All least lists, found by trying all ascending tuples of so many checks."""
    every = plain_checks(web)
    return [lot for lot in itertools.combinations(every, many) if plainly_enough(web, lot)]


# Webs with clusters of several ways, and with three of them and more from one place to another one.
LUMPS = [
    Web(4, ((0, 1), (0, 1), (1, 3), (0, 2), (2, 3), (0, 3))),
    Web(4, ((0, 3), (0, 1), (1, 3), (1, 3), (0, 2), (2, 3), (0, 3))),
    Web(5, ((4, 0), (4, 1), (4, 2), (0, 3), (1, 3), (2, 3), (2, 3))),
    Web(2, ((0, 1),) * 4),
    Web(2, ((1, 0),) * 5),
    Web(3, ((0, 1),) * 2 + ((1, 2),) * 2 + ((0, 2),) * 2),
    beside(Web(2, ((0, 1),) * 3), Web(2, ((0, 1),) * 4)),
]


class LeastManyTest(unittest.TestCase):
    def test_of_the_examples(self):
        self.assertEqual(least_many(H), 3)
        self.assertEqual(least_many(T), 1)
        self.assertEqual(least_many(D), 1)
        self.assertEqual(least_many(S), 1)
        self.assertEqual(least_many(Web(2, ((0, 1),) * 5)), 125)
        self.assertEqual(least_many(LUMPS[0]), 4 * 1 * 2 * 1)
        self.assertEqual(least_many(cube(6)), 1)

    def test_of_webs_without_two_clusters(self):
        for web in ONE_WAY_AT_MOST:
            self.assertEqual(least_many(web), 1)
            self.assertEqual(least_at(web, 0), ())
            self.assertEqual(least_index(web, ()), 0)
            with self.assertRaises(NoNumber):
                least_at(web, 1)

    def test_against_the_fact(self):
        for web in (*some_webs(150, 7, 14), *LUMPS):
            self.assertEqual(least_many(web), plain_many(web))

    def test_against_trying_all_lists(self):
        for web in (*some_webs(80, 5, 7), *LUMPS):
            many = len(least_list(web))
            if math.comb(len(plain_checks(web)), many) < 1500:
                self.assertEqual(least_many(web), len(plain_leasts(web, many)))

    def test_numbers_of_very_many_digits(self):
        self.assertEqual(least_many(Web(2, ((0, 1),) * 400)), 400 ** 398)
        self.assertEqual(least_many(wide_web()), (7 ** 5) ** 46 * (6 ** 4) ** 13)
        row = double_row(59)
        self.assertEqual(least_many(row), 1)
        # Two rows of 2 ** 29 ways each, from the first place to the last one, and an arrow.
        arrows = [(place, place + 1) for place in range(29) for _ in range(2)]
        arrows += [(0 if place == 29 else place, place + 1 if place < 57 else 29)
                   for place in range(29, 58) for _ in range(2)]
        web = Web(58, (*arrows, (0, 29)))
        self.assertEqual(least_many(web), (2 ** 30 + 1) * 2 ** 58)


class NumbersTest(unittest.TestCase):
    def test_each_number_has_its_list_and_each_list_its_number(self):
        for web in (*some_webs(120, 6, 9), *LUMPS):
            many = least_many(web)
            if many > 700:
                continue
            found = [least_at(web, number) for number in range(many)]
            self.assertEqual(len(set(found)), many)
            for number, thing in enumerate(found):
                self.assertIs(type(thing), tuple)
                self.assertIs(is_least(web, thing), True)
                self.assertEqual(least_index(web, thing), number)
            self.assertIn(least_list(web), found)

    def test_all_least_lists_have_a_number(self):
        for web in (*some_webs(60, 5, 7), *LUMPS):
            many = len(least_list(web))
            if math.comb(len(plain_checks(web)), many) < 1500:
                found = plain_leasts(web, many)
                self.assertEqual(sorted(least_index(web, thing) for thing in found), list(range(len(found))))
                self.assertEqual(sorted(least_at(web, number) for number in range(len(found))), found)

    def test_of_webs_with_more_least_lists_than_could_be_listed(self):
        chooser = random.Random(91)
        webs = [Web(2, ((0, 1),) * 400), wide_web(), floor(Web(2, ((0, 1),) * 5), double_row(8)),
                beside(wide_web(), H), Web(3, ((0, 1),) * 150 + ((1, 2),) * 100 + ((0, 2),) * 150)]
        for web in webs:
            many = least_many(web)
            for number in (0, many - 1, chooser.randrange(many)):
                thing = least_at(web, number)
                self.assertIs(is_least(web, thing), True)
                self.assertEqual(least_index(web, thing), number)
            thing = least_list(web)
            self.assertEqual(least_at(web, least_index(web, thing)), thing)
            with self.assertRaises(NoNumber):
                least_at(web, many)
            with self.assertRaises(NoNumber):
                least_at(web, many * many)

    def test_no_number(self):
        for web in (T, H, LUMPS[1]):
            for number in (*WRONG_NUMBERS, least_many(web), least_many(web) + 1):
                with self.assertRaises(NoNumber):
                    least_at(web, number)

    def test_no_list(self):
        good = tuple(C)
        for thing in (*WRONG_TUPLES, C, good[::-1], good[:1], (*good, ((0, 2), (1, 3))), (good,), (*good, good[1]),
                      (good[0], list(good[1])), (good[0], ((2,), (True, 3))), (((0, 2), (1, 3)), good[1])):
            with self.assertRaises(NoList):
                least_index(T, thing)
        for thing in ODD_TUPLES:
            with self.assertRaises(NoList):
                least_index(T, (C[0], thing))
        with self.assertRaises(NoList):
            least_index(H, (((0,), (1,)), ((0,), (2,)), ((1,), (2,))))
        with self.assertRaises(NoList):
            least_index(Web(1, ()), [])


if __name__ == "__main__":
    unittest.main()
