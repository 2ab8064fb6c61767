"""7.4 and what 0.2 to 0.5 say of enoughchecks/roads.py."""

import itertools
import random
import unittest

from enoughchecks.changes import beside, floor
from enoughchecks.counting import least_at, least_many
from enoughchecks.errors import NoList
from enoughchecks.leasts import least_list
from enoughchecks.roads import is_road, road
from enoughchecks.webs import Web
from tests.support import C, H, ODD_TUPLES, S, T, WRONG_TUPLES, double_row, nested, plain_checks, row_web, some_webs
from tests.support import wide_web

LISTS_OF_H = [(((0,), (1,)), ((0,), (2,))), (((0,), (1,)), ((1,), (2,))), (((0,), (2,)), ((1,), (2,)))]
NO_LISTS = (*WRONG_TUPLES, C, tuple(C[::-1]), tuple(C[:1]), (*C, ((0, 2), (1, 3))), (C[0], list(C[1])),
            (C[0], ((2,), (True, 3))), (((0, 2), (1, 3)), C[1]))
LUMPS = [
    Web(4, ((0, 3), (0, 1), (1, 3), (0, 2), (2, 3), (2, 3))),
    Web(2, ((0, 1),) * 4),
    Web(3, ((0, 1),) * 2 + ((1, 2),) * 3),
    Web(3, ((0, 1),) * 2 + ((1, 2),) * 2 + ((0, 2),) * 2),
    beside(H, Web(2, ((0, 1),) * 2)),
]


def every_least(web):
    return [least_at(web, number) for number in range(least_many(web))]


def webs_with_lists(most):
    """Webs with several least lists that can be listed, and these lists."""
    for web in (*some_webs(150, 5, 8), *LUMPS):
        if 1 < least_many(web) <= most:
            yield web, every_least(web)


def plainly_road(leasts, one, other, thing):
    """Whether a tuple of pairs leads from list to list, the least lists being known."""
    here = set(one)
    for out, put in thing:
        if out not in here or put in here:
            return False
        here = here - {out} | {put}
        if tuple(sorted(here)) not in leasts:
            return False
    return here == set(other)


class RoadTest(unittest.TestCase):
    def test_of_one_step(self):
        for one, other in itertools.permutations(LISTS_OF_H, 2):
            out, put = (set(one) - set(other)).pop(), (set(other) - set(one)).pop()
            self.assertEqual(road(H, one, other), ((out, put),))
            self.assertIs(is_road(H, one, other, ((out, put),)), True)
            self.assertIs(is_road(H, one, other, ((put, out),)), False)

    def test_from_a_list_to_itself(self):
        for web, lists in webs_with_lists(60):
            for thing in lists:
                self.assertEqual(road(web, thing, thing), ())
                self.assertIs(is_road(web, thing, thing, ()), True)
        for web in (T, Web(1, ()), Web(60, ()), row_web(60), double_row(59)):
            only = least_list(web)
            self.assertEqual(road(web, only, only), ())
            self.assertIs(is_road(web, only, only, ()), True)

    def test_the_fact(self):
        chooser = random.Random(111)
        for web, lists in webs_with_lists(200):
            for _ in range(12):
                one, other = chooser.choice(lists), chooser.choice(lists)
                found = road(web, one, other)
                self.assertIs(type(found), tuple)
                self.assertEqual(len(found), len(set(one) - set(other)))
                self.assertIs(plainly_road(lists, one, other, found), True)
                self.assertIs(is_road(web, one, other, found), True)

    def test_fewer_pairs_are_no_road(self):
        web = LUMPS[1]
        lists = every_least(web)
        one, other = next(both for both in itertools.combinations(lists, 2) if not set(both[0]) & set(both[1]))
        found = road(web, one, other)
        self.assertEqual(len(found), 3)
        for k in range(3):
            self.assertIs(is_road(web, one, other, found[:k] + found[k + 1:]), False)
        self.assertIs(is_road(web, one, other, found[::-1]), plainly_road(lists, one, other, found[::-1]))

    def test_all_roads_of_a_step_and_of_two(self):
        for web, lists in webs_with_lists(4):
            steps = list(itertools.product(plain_checks(web), repeat=2))
            if len(steps) > 100:
                continue
            for one, other in itertools.product(lists, repeat=2):
                for step in steps:
                    self.assertIs(is_road(web, one, other, (step,)), plainly_road(lists, one, other, (step,)))
        for thing in itertools.product(itertools.product(plain_checks(H), repeat=2), repeat=2):
            for one, other in itertools.product(LISTS_OF_H, repeat=2):
                self.assertIs(is_road(H, one, other, thing), plainly_road(LISTS_OF_H, one, other, thing))

    def test_wanderings_are_roads(self):
        chooser = random.Random(112)
        for web, lists in webs_with_lists(200):
            for _ in range(4):
                stops = [chooser.choice(lists) for _ in range(6)]
                thing = sum([road(web, here, there) for here, there in zip(stops, stops[1:])], ())
                self.assertIs(is_road(web, stops[0], stops[-1], thing), True)
                self.assertIs(is_road(web, stops[0], stops[1], thing), stops[1] == stops[-1])
                thing = list(thing)
                chooser.shuffle(thing)
                thing = tuple(thing)
                self.assertIs(is_road(web, stops[0], stops[-1], thing),
                              plainly_road(lists, stops[0], stops[-1], thing))

    def test_however_long(self):
        (out, put), = road(H, LISTS_OF_H[0], LISTS_OF_H[1])
        there_and_back = ((out, put), (put, out))
        self.assertIs(is_road(H, LISTS_OF_H[0], LISTS_OF_H[0], there_and_back * 500), True)
        self.assertIs(is_road(H, LISTS_OF_H[0], LISTS_OF_H[1], there_and_back * 500 + ((out, put),)), True)
        self.assertIs(is_road(H, LISTS_OF_H[0], LISTS_OF_H[2], there_and_back * 500 + ((out, put),)), False)

    def test_of_webs_with_more_least_lists_than_could_be_listed(self):
        chooser = random.Random(113)
        for web in (Web(2, ((0, 1),) * 400), wide_web(), floor(Web(2, ((0, 1),) * 4), double_row(6)), beside(H, T),
                    Web(3, ((0, 1),) * 90 + ((1, 2),) * 90 + ((0, 2),) * 90)):
            many = least_many(web)
            one, other = least_at(web, chooser.randrange(many)), least_at(web, many // 2)
            found = road(web, one, other)
            self.assertEqual(len(found), len(set(one) - set(other)))
            self.assertIs(is_road(web, one, other, found), True)
            if found:
                self.assertIs(is_road(web, one, other, found[:-1]), False)
                self.assertIs(is_road(web, other, one, found), False)

    def test_no_road(self):
        one, other = LISTS_OF_H[0], LISTS_OF_H[1]
        (out, put), = road(H, one, other)
        good = ((out, put),)
        self.assertIs(is_road(H, one, other, good), True)
        for thing in (*WRONG_TUPLES, list(good), good[0], ([out, put],), (good,), ((out,),), ((out, put, put),),
                      ((out, put[::-1]),), ((out[::-1], put),), ((out, list(put)),), ((list(out), put),),
                      ((out, out), *good), (*good, (put, put)), (*good, None), (None, *good), ((out, ((1,), (3,))),),
                      ((out, ((True,), (2,))),), ((((False,), (2,)), put),), *good):
            self.assertIs(is_road(H, one, other, thing), False)
            self.assertIs(is_road(H, one, one, thing), type(thing) is tuple and thing == ())
        for thing in (*WRONG_TUPLES, nested(tuple, 38)):
            self.assertIs(is_road(H, one, other, (thing,)), False)
            self.assertIs(is_road(H, one, other, ((out, thing),)), False)
            self.assertIs(is_road(H, one, other, ((thing, put),)), False)
            self.assertIs(is_road(H, one, other, ((thing, thing),)), False)

    def test_steps_that_leave_no_least_list(self):
        # The check that is put in joins clusters that need no joining, or none at all.
        web = Web(4, ((0, 1), (0, 1), (0, 2), (2, 1), (1, 3)))
        one = (((0,), (1,)), ((0,), (2, 3)))
        other = (((0,), (1,)), ((1,), (2, 3)))
        within = ((0, 4), (1, 4))
        self.assertIs(is_road(web, one, other, ((one[1], other[1]),)), True)
        self.assertIs(is_road(web, one, other, ((one[0], other[1]), (one[1], other[0]))), True)
        self.assertIs(is_road(web, one, other, ((one[0], within), (within, one[0]), (one[1], other[1]))), False)
        self.assertIs(is_road(web, one, one, ((one[0], within), (within, one[0]))), False)
        web = LUMPS[2]
        one = least_at(web, 0)
        for out, put in itertools.product(one, plain_checks(web)):
            self.assertIs(is_road(web, one, one, ((out, put), (put, out))),
                          plainly_road(every_least(web), one, one, ((out, put), (put, out))))

    def test_errors_in_their_order(self):
        good = tuple(C)
        for thing in NO_LISTS:
            for call in (lambda one, other: road(T, one, other), lambda one, other: is_road(T, one, other, None),
                         lambda one, other: is_road(T, one, other, ())):
                with self.assertRaises(NoList):
                    call(thing, good)
                with self.assertRaises(NoList):
                    call(good, thing)
                with self.assertRaises(NoList):
                    call(thing, thing)
        for thing in ODD_TUPLES:
            with self.assertRaises(NoList):
                road(T, (C[0], thing), good)
        with self.assertRaises(NoList):
            road(S, (), (((0,), (1,)),))


if __name__ == "__main__":
    unittest.main()
