"""6.1 and what 0.2 to 0.5 say of enoughchecks/chains.py."""

import itertools
import random
import unittest

from enoughchecks.chains import chain, classes, exchanged, follows, is_chain
from enoughchecks.changes import cube
from enoughchecks.enough import further
from enoughchecks.errors import NoChecks, NoExchange, NoPair, NoPlace, NoWay, TooMany
from enoughchecks.webs import Web, ends, is_way
from tests.support import C, D, H, NO_CHECKS, S, T, WRONG_NUMBERS, WRONG_TUPLES, WRONG_WAYS, agree, all_worlds
from tests.support import double_row, many_ways_web, nested, plain_checks, plain_classes, plain_ways, row_web
from tests.support import some_checks, some_webs, ways_of

NO_EXCHANGES = (
    *WRONG_TUPLES, (0, 0), (0, 0, False, False), [0, 0, False], (0, 0, 0), (0, 0, None), (0, 0, ()), (0, 0, "False"),
    (False, 0, False), (0, False, False), (2, 0, False), (-1, 0, False), (10 ** 59, 0, False), (0, -1, False),
    (0, -3, False), (0, 1, False), (0, 3, False), (0, 10 ** 59, False), (0, 0, True), (1, 0, True), (None, 0, False),
    (0, None, False), ("0", 0, False), (0, "0", False), ((0,), 0, False), (0, (0,), False), (C[0], 0, False),
    ((0, 0, False),), (0, 0, nested(tuple, 39)))


def plainly_exchanged(checks, way, check, at, back):
    """The way behind an exchange, arrow by arrow, or None."""
    old, new = checks[check] if not back else checks[check][::-1]
    if at + len(old) > len(way) or any(way[at + k] != arrow for k, arrow in enumerate(old)):
        return None
    return way[:at] + new + way[at + len(old):]


def exchanges(checks, way):
    """All triples that can be exchanges in a way, and as many that lie beyond it."""
    return itertools.product(range(len(checks)), range(len(way) + 2), (False, True))


def cases(seed, many=60, most=5):
    chooser = random.Random(seed)
    for web in some_webs(many, 6, 10):
        yield web, some_checks(web, chooser, most), chooser


class ExchangedTest(unittest.TestCase):
    def test_of_the_examples(self):
        self.assertEqual(exchanged(T, C, (0, 4, 3), (0, 0, False)), (1, 3))
        self.assertEqual(exchanged(T, C, (1, 3), (0, 0, True)), (0, 4, 3))
        self.assertEqual(exchanged(T, C, (0, 2), (1, 1, False)), (0, 4, 3))
        self.assertEqual(exchanged(T, tuple(C), (0, 4, 3), (1, 1, True)), (0, 2))
        self.assertEqual(exchanged(H, [((0,), (2,))], (2,), (0, 0, True)), (0,))

    def test_all_triples_against_replacing_arrow_by_arrow(self):
        for web, checks, chooser in cases(61):
            found = ways_of(web)
            for way in chooser.sample(found, min(len(found), 6)):
                for check, at, back in exchanges(checks, way):
                    behind = plainly_exchanged(checks, way, check, at, back)
                    if behind is None:
                        with self.assertRaises(NoExchange):
                            exchanged(web, checks, way, (check, at, back))
                    else:
                        self.assertEqual(exchanged(web, checks, way, (check, at, back)), behind)
                        self.assertIs(is_way(web, behind), True)
                        self.assertEqual(exchanged(web, checks, behind, (check, at, not back)), way)

    def test_at_the_first_and_at_the_last_index(self):
        web = double_row(59)
        way = tuple(range(0, 118, 2))
        checks = [((0,), (1,)), ((116,), (117,)), ((0, 2), (1, 3)), (way, (*way[:-1], 117))]
        self.assertEqual(exchanged(web, checks, way, (0, 0, False)), (1, *way[1:]))
        self.assertEqual(exchanged(web, checks, way, (1, 58, False)), (*way[:-1], 117))
        self.assertEqual(exchanged(web, checks, way, (2, 0, False)), (1, 3, *way[2:]))
        self.assertEqual(exchanged(web, checks, way, (3, 0, False)), (*way[:-1], 117))
        for wrong in ((0, 1, False), (1, 57, False), (1, 59, False), (1, 60, False), (3, 1, False), (3, 0, True)):
            with self.assertRaises(NoExchange):
                exchanged(web, checks, way, wrong)

    def test_no_exchange(self):
        for thing in NO_EXCHANGES:
            with self.assertRaises(NoExchange):
                exchanged(T, C, (0, 4, 3), thing)
        for checks in ([], ()):
            with self.assertRaises(NoExchange):
                exchanged(T, checks, (0, 4, 3), (0, 0, False))

    def test_errors_in_their_order(self):
        for checks in NO_CHECKS:
            with self.assertRaises(NoChecks):
                exchanged(T, checks, None, None)
        for way in WRONG_WAYS:
            with self.assertRaises(NoWay):
                exchanged(T, C, way, None)

    def test_nothing_is_changed(self):
        checks = list(C)
        exchanged(T, checks, (0, 4, 3), (0, 0, False))
        chain(T, checks, (0, 2), (1, 3))
        classes(T, checks, 0, 3)
        self.assertEqual(checks, C)


class ChainTest(unittest.TestCase):
    def test_of_the_examples(self):
        self.assertEqual(chain(T, C[:1], (0, 4, 3), (1, 3)), ((0, 0, False),))
        self.assertIsNone(chain(T, C[:1], (0, 2), (1, 3)))
        self.assertIs(is_chain(T, C, (0, 2), (1, 3), ((1, 1, False), (0, 0, False))), True)
        self.assertIs(follows(T, C, (0, 2), (1, 3)), True)
        self.assertIs(follows(T, C[:1], (0, 2), (1, 3)), False)
        self.assertIs(follows(T, [], (0, 2), (1, 3)), False)

    def test_a_way_follows_from_itself(self):
        for checks in ([], (), C, C[1:]):
            for way in ways_of(T):
                self.assertIs(follows(T, checks, way, way), True)
                self.assertIs(is_chain(T, checks, way, way, ()), True)
                self.assertIs(is_chain(T, checks, way, way, chain(T, checks, way, way)), True)
        self.assertIs(is_chain(T, C, (0, 4, 3), (0, 4, 3), ((0, 0, False), (0, 0, True))), True)
        self.assertIs(is_chain(T, C, (0, 2), (1, 3), ()), False)

    def test_against_exchanging_all_ways(self):
        for web, checks, chooser in cases(62, 80):
            for u, v in itertools.product(range(web.places), repeat=2):
                found = plain_ways(web, u, v)
                lots = plain_classes(web, checks, u, v)
                for one, other in itertools.product(found[:8], repeat=2):
                    expected = any(one in lot and other in lot for lot in lots)
                    told = chain(web, checks, one, other)
                    self.assertIs(follows(web, checks, one, other), expected)
                    self.assertIs(told is not None, expected)
                    self.assertIs(is_chain(web, checks, one, other, told), expected)
                    if expected:
                        self.assertIs(type(told), tuple)

    def test_what_follows_agrees_in_every_world_that_passes(self):
        chooser = random.Random(63)
        for web in (D, H, S, Web(4, ((0, 1), (0, 1), (1, 2), (2, 3)))):
            worlds = list(all_worlds(web, 2))
            for _ in range(10):
                checks = some_checks(web, chooser, 2)
                passing = [world for world in worlds if all(agree(web, world, *check) for check in checks)]
                for one, other in plain_checks(web):
                    if follows(web, checks, one, other):
                        self.assertTrue(all(agree(web, world, one, other) for world in passing))

    def test_ways_that_begin_alike(self):
        checks = [((0, 2), (0, 4, 3))]
        self.assertEqual(classes(T, checks, 0, 3), [((0, 2), (0, 4, 3)), ((1, 3),)])
        # The world that parts the rest of both ways passes the check, so nothing is struck.
        self.assertIs(follows(T, checks, (2,), (4, 3)), False)
        web = Web(4, ((0, 1), (1, 2), (1, 2), (2, 3)))
        checks = [((0, 1), (0, 2)), ((1, 3), (2, 3))]
        self.assertIs(follows(web, checks, (1,), (2,)), False)
        self.assertIs(follows(web, checks[:1], (0, 1, 3), (0, 2, 3)), True)
        self.assertIs(follows(web, checks[1:], (0, 1, 3), (0, 2, 3)), True)
        self.assertIs(is_chain(web, checks, (0, 1, 3), (0, 2, 3), ((1, 1, False),)), True)

    def test_checks_of_many_lengths_with_alike_begins(self):
        web = Web(4, ((0, 1), (1, 2), (2, 3), (0, 1), (0, 2), (0, 3)))
        checks = [((0,), (3,)), ((0, 1), (4,)), ((0, 1, 2), (5,))]
        self.assertEqual(classes(web, checks, 0, 3), [((0, 1, 2), (3, 1, 2), (4, 2), (5,))])
        self.assertEqual(classes(web, checks[1:], 0, 3), [((0, 1, 2), (4, 2), (5,)), ((3, 1, 2),)])
        self.assertEqual(classes(web, checks[::2], 0, 3), [((0, 1, 2), (3, 1, 2), (5,)), ((4, 2),)])

    def test_short_chains_one_by_one(self):
        for web, checks, chooser in cases(64, 30, 3):
            for one in chooser.sample(ways_of(web), min(len(ways_of(web)), 4)):
                triples = list(exchanges(checks, one))
                for many in range(3):
                    for thing in itertools.islice(itertools.product(triples, repeat=many), 300):
                        way = one
                        for exchange in thing:
                            way = way and plainly_exchanged(checks, way, *exchange)
                        for other in plain_ways(web, *ends(web, one))[:6]:
                            self.assertIs(is_chain(web, checks, one, other, thing), way == other)

    def test_no_chain(self):
        good = ((1, 1, False), (0, 0, False))
        for thing in (list(good), good[::-1], good[0], (good[0], list(good[1])), (good,), good[:1], (*good, good[1]),
                      (*good, None), (None, *good), (good[0], good[0], good[1]), None, [], {}, 0, "", b"", dict([])):
            self.assertIs(is_chain(T, C, (0, 2), (1, 3), thing), False)
        for thing in NO_EXCHANGES:
            self.assertIs(is_chain(T, C, (0, 4, 3), (1, 3), (thing,)), False)
            self.assertIs(is_chain(T, C, (0, 4, 3), (1, 3), ((0, 0, False), thing)), False)
        self.assertIs(is_chain(T, C, (0, 4, 3), (1, 3), ((0, 0, False),)), True)
        self.assertIs(is_chain(T, C, (0, 2), (0, 2), None), False)

    def test_long_chains_are_judged(self):
        there_and_back = ((0, 0, False), (0, 0, True))
        self.assertIs(is_chain(T, C, (0, 4, 3), (0, 4, 3), there_and_back * 800), True)
        self.assertIs(is_chain(T, C, (0, 4, 3), (1, 3), there_and_back * 800), False)
        self.assertIs(is_chain(T, C, (0, 4, 3), (1, 3), there_and_back * 800 + there_and_back[:1]), True)

    def test_errors_in_their_order(self):
        calls = (chain, follows, lambda *told: is_chain(*told, None), lambda *told: is_chain(*told, ()))
        for call in calls:
            for checks in NO_CHECKS:
                with self.assertRaises(NoChecks):
                    call(T, checks, None, None)
            for way in WRONG_WAYS:
                with self.assertRaises(NoWay):
                    call(T, C, way, (0, 2))
                with self.assertRaises(NoWay):
                    call(T, C, (0,), way)
            for one, other in (((0, 2), (0,)), ((0,), (1,)), ((2,), (0, 2)), ((0, 4), (0, 4, 3))):
                with self.assertRaises(NoPair):
                    call(T, C, one, other)


class MostWaysTest(unittest.TestCase):
    def test_1500_ways_and_one_more(self):
        web = many_ways_web(1500)
        checks = [((0,), (1,)), ((30,), (79,))]
        self.assertIs(follows(web, checks, (0, 30), (1, 79)), True)
        self.assertIs(is_chain(web, checks, (0, 30), (1, 79), chain(web, checks, (0, 30), (1, 79))), True)
        self.assertEqual(len(classes(web, checks, 0, 2)), 29 * 49)
        web = many_ways_web(1501)
        for call in (lambda: follows(web, checks, (0, 30), (1, 79)), lambda: chain(web, checks, (0, 30), (0, 30)),
                     lambda: follows(web, [], (80,), (80,)), lambda: classes(web, [], 0, 2)):
            with self.assertRaises(TooMany) as caught:
                call()
            self.assertEqual(caught.exception.most, 1500)
        self.assertIs(is_chain(web, checks, (0, 30), (1, 79), ((0, 0, False), (1, 1, False))), True)
        self.assertIs(is_chain(web, checks, (0, 30), (1, 79), ((0, 0, False),)), False)
        # Between these places there still are few enough.
        self.assertIs(follows(web, checks, (0,), (1,)), True)
        self.assertEqual(len(classes(web, checks, 0, 1)), 29)

    def test_too_many_last_of_all(self):
        web = many_ways_web(1501)
        for call in (follows, chain):
            with self.assertRaises(NoChecks):
                call(web, None, (0, 30), (1, 79))
            with self.assertRaises(NoWay):
                call(web, [], (0, 30), (1, 90))
            with self.assertRaises(NoPair):
                call(web, [], (0, 30), (1,))
        with self.assertRaises(NoChecks):
            classes(web, None, 0, 2)

    def test_long_chains_between_webs_full_of_ways(self):
        web = double_row(10)
        checks = [((2 * k,), (2 * k + 1,)) for k in range(10)]
        one, other = tuple(range(0, 20, 2)), tuple(range(1, 20, 2))
        found = chain(web, checks, one, other)
        self.assertIs(is_chain(web, checks, one, other, found), True)
        self.assertEqual(classes(web, checks, 0, 10), [tuple(plain_ways(web, 0, 10))])
        self.assertEqual(len(classes(web, checks[1:], 0, 10)), 2)

    def test_webs_with_more_ways_and_checks_than_could_be_listed(self):
        web = double_row(59)
        self.assertIs(follows(web, [((0,), (1,))], (0, 2), (1, 2)), True)
        self.assertIs(follows(web, [((0,), (1,))], (0, 2), (0, 3)), False)
        way = tuple(range(0, 118, 2))
        with self.assertRaises(TooMany):
            follows(web, [((0,), (1,))], way, (1, *way[1:]))
        self.assertIs(is_chain(web, [((0,), (1,))], way, (1, *way[1:]), ((0, 0, False),)), True)

    def test_a_cube_and_its_squares(self):
        web = cube(5)
        checks = further(web, [])
        self.assertEqual([len(lot) for lot in classes(web, checks, 0, 31)], [120])
        self.assertEqual(sum(len(lot) for lot in classes(web, checks[1:], 0, 31)), 120)


class ClassesTest(unittest.TestCase):
    def test_of_the_examples(self):
        self.assertEqual(classes(T, C[:1], 0, 3), [((0, 2),), ((0, 4, 3), (1, 3))])
        self.assertEqual(classes(T, C, 0, 3), [((0, 2), (0, 4, 3), (1, 3))])
        self.assertEqual(classes(H, [], 0, 1), [((0,),), ((1,),), ((2,),)])

    def test_against_exchanging_all_ways(self):
        for web, checks, _ in cases(65, 100):
            for u, v in itertools.product(range(web.places), repeat=2):
                found = classes(web, checks, u, v)
                self.assertEqual(found, [tuple(lot) for lot in plain_classes(web, checks, u, v)])
                self.assertIs(type(found), list)
                self.assertEqual(sorted(way for lot in found for way in lot), plain_ways(web, u, v))

    def test_no_way(self):
        for web in (T, D, Web(3, ()), row_web(60)):
            self.assertEqual(classes(web, [], 1, 1), [])
            self.assertEqual(classes(web, (), 2, 0), [])

    def test_all_checks_make_one_class(self):
        for web, _, _ in cases(66, 20):
            for u, v in itertools.product(range(web.places), repeat=2):
                self.assertLessEqual(len(classes(web, plain_checks(web), u, v)), 1)

    def test_the_list_is_new(self):
        found = classes(T, C, 0, 3)
        found.append(None)
        self.assertEqual(classes(T, C, 0, 3), [((0, 2), (0, 4, 3), (1, 3))])

    def test_errors_in_their_order(self):
        for checks in NO_CHECKS:
            with self.assertRaises(NoChecks):
                classes(T, checks, None, None)
        for thing in (*WRONG_NUMBERS, 4):
            with self.assertRaises(NoPlace):
                classes(T, C, thing, 3)
            with self.assertRaises(NoPlace):
                classes(T, C, 0, thing)


if __name__ == "__main__":
    unittest.main()
