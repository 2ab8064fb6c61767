"""1.1, 1.2 and what 0.2 to 0.5 say of enoughchecks/webs.py."""

import unittest

from enoughchecks.changes import beside
from enoughchecks.errors import BadWeb, NoPlace, NoWay
from enoughchecks.webs import Web, between, ends, is_way, passed, reached, reaching
from tests.support import D, H, NO_NUMBERS_NO_TUPLES, ODD_TUPLES, S, T, WRONG_NUMBERS, WRONG_TUPLES, nested, plain_ways
from tests.support import row_web, some_webs, wide_web


class Like:
    """Has the attributes of a web, but is none."""

    def __init__(self, places, arrows):
        self.places = places
        self.arrows = arrows


class Always:
    """Says of itself that it is equal to everything."""

    def __eq__(self, other):
        return True


class WebTest(unittest.TestCase):
    def bad(self, places, arrows, part, at):
        with self.assertRaises(BadWeb) as caught:
            Web(places, arrows)
        error = caught.exception
        self.assertEqual((error.part, error.at), (part, at))
        self.assertIs(type(error.at), int)

    def test_attributes(self):
        self.assertEqual(T.places, 4)
        self.assertEqual(T.arrows, ((0, 1), (0, 2), (1, 3), (2, 3), (1, 2)))
        self.assertEqual(H.arrows, ((0, 1), (0, 1), (0, 1)))

    def test_bounds_of_places(self):
        self.assertEqual(Web(1, ()).places, 1)
        self.assertEqual(Web(60, ()).places, 60)
        self.assertEqual(Web(60, ((59, 0),)).arrows, ((59, 0),))
        for places in (0, 61, -60, *WRONG_NUMBERS):
            self.bad(places, (), "places", -1)

    def test_bounds_of_arrows(self):
        self.assertEqual(len(Web(2, ((0, 1),) * 400).arrows), 400)
        self.bad(2, ((0, 1),) * 401, "arrows", -1)
        self.bad(2, ("no pair",) * 401, "arrows", -1)
        self.bad(2, ("no pair",) * 400, "arrows", 0)

    def test_arrows_that_are_no_tuple(self):
        for arrows in (0, 1, -1, 10 ** 59, *NO_NUMBERS_NO_TUPLES):
            self.bad(3, arrows, "arrows", -1)

    def test_items_that_are_no_pair(self):
        for item in (0, *NO_NUMBERS_NO_TUPLES, *ODD_TUPLES):
            self.bad(3, (item,), "arrows", 0)
            self.bad(3, ((0, 1), (1, 2), item, None), "arrows", 2)

    def test_pairs_that_are_no_arrow(self):
        for item in ((0, 0), (2, 2), (0, 3), (3, 0), (-1, 0), (0, -1), (0, 1, 2), (1,), (0, 10 ** 59), (10 ** 59, 0),
                     (-10 ** 59, 1), (True, 0), (0, True), (False, 1), (1, False), [0, 1], "01", b"\x00\x01",
                     {0: 1, 1: 2}, range(2), (0, (1,)), ([0], 1), (0, None)):
            self.bad(3, ((0, 1), item), "arrows", 1)

    def test_place_zero_of_a_web_of_one_place_has_no_arrow(self):
        self.bad(1, ((0, 0),), "arrows", 0)
        self.bad(1, ((0, 1),), "arrows", 0)

    def test_the_last_of_400_is_judged(self):
        self.bad(2, ((0, 1),) * 399 + ((1, 1),), "arrows", 399)

    def test_rings(self):
        self.bad(2, ((0, 1), (1, 0)), "ring", -1)
        self.bad(4, ((0, 1), (1, 2), (2, 0)), "ring", -1)
        self.bad(5, ((0, 1), (1, 2), (2, 3), (3, 1), (3, 4)), "ring", -1)
        self.bad(60, tuple((place, (place + 1) % 60) for place in range(60)), "ring", -1)
        self.assertEqual(len(Web(60, tuple((place, place + 1) for place in range(59))).arrows), 59)
        self.assertEqual(len(Web(4, ((3, 2), (2, 1), (1, 0), (3, 0))).arrows), 4)

    def test_every_web_of_three_places_and_three_arrows(self):
        pairs = [(u, v) for u in range(3) for v in range(3) if u != v]
        for arrows in [(a, b, c) for a in pairs for b in pairs for c in pairs]:
            chosen = set(arrows)
            ring = any((v, u) in chosen for u, v in chosen)
            ring = ring or {(0, 1), (1, 2), (2, 0)} <= chosen or {(1, 0), (2, 1), (0, 2)} <= chosen
            if ring:
                self.bad(3, arrows, "ring", -1)
            else:
                self.assertEqual(Web(3, arrows).arrows, arrows)

    def test_the_first_error_that_is_due(self):
        self.bad(0, None, "places", -1)
        self.bad(True, ((0, 1), (1, 0)), "places", -1)
        self.bad(2, [(0, 1), (1, 0)], "arrows", -1)
        self.bad(2, ((0, 1), (1, 0), (0, 0), None), "arrows", 2)

    def test_equality(self):
        self.assertTrue(Web(2, ((0, 1),)) == Web(2, ((0, 1),)))
        self.assertFalse(Web(2, ((0, 1),)) != Web(2, ((0, 1),)))
        self.assertFalse(Web(2, ((0, 1),)) == Web(3, ((0, 1),)))
        self.assertFalse(Web(2, ((0, 1),)) == Web(2, ((1, 0),)))
        self.assertFalse(Web(3, ((0, 1), (0, 2))) == Web(3, ((0, 2), (0, 1))))
        self.assertFalse(Web(2, ((0, 1),)) == Web(2, ((0, 1), (0, 1))))

    def test_equal_to_nothing_of_another_kind(self):
        web = Web(2, ((0, 1),))
        for other in (None, 2, (2, ((0, 1),)), [2, ((0, 1),)], "web", Like(2, ((0, 1),)), Always(), Web, NoWay(),
                      {"places": 2, "arrows": ((0, 1),)}):
            self.assertIs(web == other, False)
            self.assertIs(web != other, True)

    def test_passed_things_stay_as_they_were(self):
        arrows = [(0, 1), (0, 1)]
        web = Web(2, tuple(arrows))
        arrows.append(None)
        self.assertEqual(web.arrows, ((0, 1), (0, 1)))


class WayTest(unittest.TestCase):
    def test_ways_of_t(self):
        good = [(0,), (1,), (2,), (3,), (4,), (0, 2), (0, 4), (1, 3), (4, 3), (0, 4, 3)]
        for way in [(a,) for a in range(5)] + [(a, b) for a in range(5) for b in range(5)]:
            self.assertIs(is_way(T, way), way in good, way)
        self.assertIs(is_way(T, (0, 4, 3)), True)
        self.assertIs(is_way(T, (0, 4, 3, 3)), False)
        self.assertIs(is_way(T, (0, 2, 3)), False)

    def test_is_way_against_plain_ways(self):
        for web in some_webs():
            for u in range(web.places):
                for v in range(web.places):
                    for way in plain_ways(web, u, v):
                        self.assertIs(is_way(web, way), True)
                        self.assertEqual(ends(web, way), (u, v))
                        self.assertIs(is_way(web, list(way)), False)
                        self.assertIs(is_way(web, way + way), False)

    def test_wrong_things_are_no_way(self):
        # A tuple of one False looks like a way of arrow 0 where flags are taken for integers.
        for web in (T, H, Web(1, ())):
            for thing in (*WRONG_TUPLES, (5,), (-1,), (0, -3), (10 ** 59,), (0, 4, 3, None), (0, 4, True)):
                self.assertIs(is_way(web, thing), False)
                for judged in (ends, passed):
                    with self.assertRaises(NoWay):
                        judged(web, thing)

    def test_flags_in_ways(self):
        self.assertIs(is_way(S, (0, 2)), True)
        self.assertIs(is_way(S, (False, 2)), False)
        self.assertIs(is_way(S, (True, 2)), False)
        self.assertIs(is_way(S, (True,)), False)

    def test_no_arrow_from_behind(self):
        # The indexes -1 and below mean arrows to Python, but to no web.
        self.assertIs(is_way(T, (0, -1)), False)
        self.assertIs(is_way(T, (-5, 2)), False)

    def test_ends_and_passed(self):
        self.assertEqual(ends(T, (0, 4, 3)), (0, 3))
        self.assertEqual(ends(T, (4,)), (1, 2))
        self.assertIs(type(ends(T, (4,))), tuple)
        self.assertEqual(passed(T, (0, 4, 3)), (0, 1, 2, 3))
        self.assertEqual(passed(T, (1, 3)), (0, 2, 3))
        self.assertEqual(passed(T, (2,)), (1, 3))
        self.assertEqual(passed(Web(3, ((2, 0), (0, 1))), (0, 1)), (2, 0, 1))

    def test_long_ways(self):
        web = row_web(60)
        self.assertEqual(passed(web, tuple(range(59))), tuple(range(60)))
        self.assertEqual(ends(web, tuple(range(59))), (0, 59))
        self.assertIs(is_way(web, tuple(range(60))), False)
        self.assertIs(is_way(web, (0,) * 10000), False)


class ReachTest(unittest.TestCase):
    def test_of_d_and_t(self):
        self.assertEqual(reached(D, 0), (0, 1, 2, 3))
        self.assertEqual(reached(D, 1), (1, 3))
        self.assertEqual(reached(T, 1), (1, 2, 3))
        self.assertEqual(reaching(D, 2), (0, 2))
        self.assertEqual(reaching(T, 2), (0, 1, 2))
        self.assertEqual(between(T, 0, 3), (1, 2))
        self.assertEqual(between(T, 0, 2), (1,))
        self.assertEqual(between(D, 0, 1), ())

    def test_a_place_that_reaches_itself_only(self):
        self.assertEqual(reached(D, 3), (3,))
        self.assertEqual(reaching(D, 0), (0,))
        self.assertEqual(reached(Web(1, ()), 0), (0,))
        self.assertEqual(reaching(Web(60, ()), 59), (59,))

    def test_between_a_place_and_itself_or_back(self):
        for web in some_webs():
            for u in range(web.places):
                self.assertEqual(between(web, u, u), ())
        self.assertEqual(between(T, 3, 0), ())

    def test_against_plain_ways(self):
        for web in some_webs():
            everywhere = range(web.places)
            leads = {(u, v): u == v or bool(plain_ways(web, u, v)) for u in everywhere for v in everywhere}
            for u in everywhere:
                self.assertEqual(reached(web, u), tuple(v for v in everywhere if leads[u, v]))
                self.assertEqual(reaching(web, u), tuple(v for v in everywhere if leads[v, u]))
                for v in everywhere:
                    middle = tuple(w for w in everywhere if leads[u, w] and leads[w, v] and w != u and w != v)
                    self.assertEqual(between(web, u, v), middle)

    def test_lots_are_ascending_tuples_of_integers(self):
        web = Web(5, ((4, 2), (2, 3), (3, 0), (0, 1)))
        self.assertEqual(reached(web, 4), (0, 1, 2, 3, 4))
        self.assertEqual(reaching(web, 1), (0, 1, 2, 3, 4))
        self.assertEqual(between(web, 4, 1), (0, 2, 3))

    def test_no_place(self):
        for web in (D, Web(1, ())):
            for place in (web.places, *WRONG_NUMBERS):
                with self.assertRaises(NoPlace):
                    reached(web, place)
                with self.assertRaises(NoPlace):
                    reaching(web, place)
                with self.assertRaises(NoPlace):
                    between(web, place, 0)
                with self.assertRaises(NoPlace):
                    between(web, 0, place)
                with self.assertRaises(NoPlace):
                    between(web, place, place)

    def test_the_greatest_webs(self):
        self.assertEqual(reached(wide_web(), 0), tuple(range(60)))
        self.assertEqual(reaching(wide_web(), 59), tuple(range(60)))
        self.assertEqual(between(wide_web(), 0, 59), tuple(range(1, 59)))

    def test_webs_beyond_the_bounds_of_constructing(self):
        web = row_web(60)
        for _ in range(5):
            web = beside(web, web)
        self.assertEqual(web.places, 1920)
        self.assertEqual(reached(web, 1860), tuple(range(1860, 1920)))
        self.assertEqual(passed(web, (1887,)), (1918, 1919))
        with self.assertRaises(NoPlace):
            reached(web, 1920)
        self.assertIs(is_way(web, (nested(tuple, 40),)), False)


if __name__ == "__main__":
    unittest.main()
