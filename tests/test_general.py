"""0.2 to 0.5 over all that has landed: any object where an error is named, nothing changed, no RecursionError."""

import copy
import unittest

from enoughchecks import errors
from enoughchecks.changes import beside, cube, floor, mirrored, numbered, with_arrow, without_arrow
from enoughchecks.ways import way_at, way_number, ways, ways_many
from enoughchecks.webs import Web, between, ends, is_way, passed, reached, reaching
from tests.support import NO_NUMBERS_NO_TUPLES, ODD_TUPLES, T, nested, row_web

# Each call that names an error for an argument, and the error that is due for what is no number, no tuple.
CALLS = [
    ("Web, places", lambda thing: Web(thing, ()), errors.BadWeb),
    ("Web, arrows", lambda thing: Web(4, thing), errors.BadWeb),
    ("Web, an arrow", lambda thing: Web(4, ((0, 1), thing)), errors.BadWeb),
    ("Web, a begin", lambda thing: Web(4, ((thing, 1),)), errors.BadWeb),
    ("Web, an end", lambda thing: Web(4, ((0, thing),)), errors.BadWeb),
    ("ends", lambda thing: ends(T, thing), errors.NoWay),
    ("passed", lambda thing: passed(T, thing), errors.NoWay),
    ("passed, an arrow", lambda thing: passed(T, (0, thing)), errors.NoWay),
    ("reached", lambda thing: reached(T, thing), errors.NoPlace),
    ("reaching", lambda thing: reaching(T, thing), errors.NoPlace),
    ("between, u", lambda thing: between(T, thing, 3), errors.NoPlace),
    ("between, v", lambda thing: between(T, 0, thing), errors.NoPlace),
    ("ways_many, u", lambda thing: ways_many(T, thing, 3), errors.NoPlace),
    ("ways_many, v", lambda thing: ways_many(T, 0, thing), errors.NoPlace),
    ("ways, u", lambda thing: ways(T, thing, 3), errors.NoPlace),
    ("ways, v", lambda thing: ways(T, 0, thing), errors.NoPlace),
    ("way_at, u", lambda thing: way_at(T, thing, 3, 0), errors.NoPlace),
    ("way_at, v", lambda thing: way_at(T, 0, thing, 0), errors.NoPlace),
    ("way_at, number", lambda thing: way_at(T, 0, 3, thing), errors.NoNumber),
    ("way_number", lambda thing: way_number(T, thing), errors.NoWay),
    ("numbered", lambda thing: numbered(T, thing), errors.NoOrder),
    ("numbered, a place", lambda thing: numbered(T, (0, 1, 2, thing)), errors.NoOrder),
    ("with_arrow, u", lambda thing: with_arrow(T, thing, 3), errors.NoPlace),
    ("with_arrow, v", lambda thing: with_arrow(T, 0, thing), errors.NoPlace),
    ("without_arrow", lambda thing: without_arrow(T, thing), errors.NoArrow),
    ("cube", lambda thing: cube(thing), errors.NoNumber),
]
DEEP = [nested(list, 40), nested(tuple, 40), nested(dict, 40), [nested(tuple, 39)] * 200, (nested(list, 38), [T] * 50)]


def long_row(doublings):
    """A row of 60 * 2 ** doublings places, far beyond what can be constructed at once."""
    web = row_web(60)
    for _ in range(doublings):
        half = web.places
        web = with_arrow(beside(web, web), half - 1, half)
    return web


class AnyObject(unittest.TestCase):
    def test_each_call_raises_its_error_and_no_other(self):
        for name, call, error in CALLS:
            for thing in [*NO_NUMBERS_NO_TUPLES, *ODD_TUPLES, *DEEP]:
                if name == "Web, arrows" and thing == ():
                    continue
                with self.assertRaises(errors.CheckError, msg=name) as caught:
                    call(thing)
                self.assertIs(type(caught.exception), error, name)

    def test_each_call_bars_each_number_that_is_out_of_bounds(self):
        for name, call, error in CALLS:
            for thing in (-1, -10 ** 59, 10 ** 60 - 1):
                with self.assertRaises(error, msg=name):
                    call(thing)

    def test_is_way_judges_any_object_by_a_flag(self):
        for thing in [*NO_NUMBERS_NO_TUPLES, *ODD_TUPLES, *DEEP, 0, 1, -1, 10 ** 59]:
            self.assertIs(is_way(T, thing), False)
        self.assertIs(is_way(T, (0, 2)), True)
        self.assertIs(is_way(T, None), False)

    def test_wrong_things_are_not_changed(self):
        for _, call, _ in CALLS:
            thing = [[0, 1], {"a": [1, 2]}, ((0, 1), [2])]
            before = copy.deepcopy(thing)
            with self.assertRaises(errors.CheckError):
                call(thing)
            self.assertEqual(thing, before)


class NothingChanges(unittest.TestCase):
    def test_equal_calls_give_equal_answers(self):
        for _ in range(2):
            self.assertEqual(ways(T, 0, 3), [(0, 2), (0, 4, 3), (1, 3)])
            self.assertEqual(reached(T, 1), (1, 2, 3))
            self.assertEqual(floor(T, T), floor(Web(4, T.arrows), T))

    def test_webs_stay_as_they_were_behind_errors(self):
        web = Web(4, T.arrows)
        for call in (lambda: with_arrow(web, 3, 0), lambda: without_arrow(web, 5), lambda: numbered(web, (0,)),
                     lambda: ways(web, 0, 4), lambda: way_at(web, 0, 3, 3), lambda: passed(web, (0, 3))):
            with self.assertRaises(errors.CheckError):
                call()
            self.assertEqual(web, T)
            self.assertEqual((web.places, web.arrows), (4, T.arrows))


class NoRecursion(unittest.TestCase):
    def test_ways_of_thousands_of_arrows(self):
        web = long_row(6)
        self.assertEqual(web.places, 3840)
        self.assertEqual(len(web.arrows), 3839)
        self.assertEqual(reached(web, 0), tuple(range(3840)))
        self.assertEqual(len(between(web, 0, 3839)), 3838)
        self.assertEqual(ways_many(web, 0, 3839), 1)
        way = ways(web, 0, 3839)[0]
        self.assertEqual(passed(web, way), tuple(range(3840)))
        self.assertEqual(way_at(web, 0, 3839, 0), way)
        self.assertEqual(way_number(web, way), 0)
        self.assertIs(is_way(web, way), True)
        with self.assertRaises(errors.NoArrow):
            with_arrow(web, 3839, 0)
        self.assertEqual(ways_many(mirrored(web), 3839, 0), 1)
        self.assertTrue(web == long_row(6))


if __name__ == "__main__":
    unittest.main()
