"""6.2 and what 0.2 to 0.5 say of enoughchecks/wholes.py."""

import random
import unittest

from enoughchecks.chains import follows
from enoughchecks.changes import beside, cube
from enoughchecks.enough import further
from enoughchecks.errors import NoChecks, TooMany
from enoughchecks.webs import Web
from enoughchecks.wholes import beyond, is_world_of_all, world_of_all
from enoughchecks.worlds import is_world
from tests.support import C, D, H, NO_CHECKS, ODD_TUPLES, S, T, WRONG_TUPLES, agree, all_worlds, changed_world
from tests.support import double_row, home_of_ways, many_ways_web, plain_checks, row_web, shuffled_world, some_checks
from tests.support import some_webs, some_world



def web_of_ways(many):
    """A row of 55 places with its 1485 ways, and arrows alike from a place to another one, up to so many ways."""
    return Web(60, tuple((place, place + 1) for place in range(54)) + ((56, 58),) * (many - 1485))


def plainly_of_all(web, checks, world):
    """Whether a world is a world of all, told in the words of the document with all ways listed."""
    if not all(agree(web, world, one, other) for one, other in checks):
        return False
    home = home_of_ways(web, checks)
    return not any(agree(web, world, one, other) for one, other in plain_checks(web) if home[one] != home[other])


def cases(seed, many=60, most=5):
    chooser = random.Random(seed)
    for web in some_webs(many, 6, 9):
        yield web, some_checks(web, chooser, most), chooser


class WorldOfAllTest(unittest.TestCase):
    def test_of_the_examples(self):
        for web in (D, T, H, S):
            for checks in ([], (), plain_checks(web), plain_checks(web)[:1]):
                world = world_of_all(web, checks)
                self.assertIs(is_world(web, world), True)
                self.assertIs(plainly_of_all(web, checks, world), True)
                self.assertIs(is_world_of_all(web, checks, world), True)

    def test_by_what_it_is(self):
        for web, checks, chooser in cases(71, 100):
            world = world_of_all(web, checks)
            self.assertIs(is_world(web, world), True)
            self.assertIs(plainly_of_all(web, checks, world), True)
            self.assertIs(is_world_of_all(web, checks, world), True)
            self.assertIs(is_world_of_all(web, checks, shuffled_world(web, world, chooser)), True)

    def test_the_second_fact(self):
        for web, checks, chooser in cases(72, 60):
            world = world_of_all(web, checks)
            for one, other in plain_checks(web)[:20]:
                self.assertIs(follows(web, checks, one, other), agree(web, world, one, other))

    def test_of_enough_checks_and_of_webs_without_arrows(self):
        for web in (Web(1, ()), Web(60, ()), row_web(20)):
            self.assertIs(is_world_of_all(web, [], world_of_all(web, [])), True)
            sizes = (1,) * web.places
            self.assertIs(is_world_of_all(web, [], (sizes, ((0,),) * len(web.arrows))), True)
            self.assertIs(is_world_of_all(web, [], ((0,) * web.places, ((),) * len(web.arrows))), True)
        for web, _, _ in cases(73, 30):
            checks = further(web, [])
            empty = ((0,) * web.places, ((),) * len(web.arrows))
            single = ((1,) * web.places, ((0,),) * len(web.arrows))
            for world in (empty, single):
                self.assertIs(is_world_of_all(web, checks, world), True)
                self.assertIs(is_world_of_all(web, [], world), len(plain_checks(web)) == 0)
        self.assertIs(is_world_of_all(cube(3), further(cube(3), []), ((1,) * 8, ((0,),) * 12)), True)

    def test_all_small_worlds(self):
        chooser = random.Random(74)
        for web in (H, S, Web(3, ((0, 1), (1, 2), (0, 2)))):
            for checks in ([], some_checks(web, chooser, 1), some_checks(web, chooser, 2), plain_checks(web)):
                found = set()
                for world in all_worlds(web, 2):
                    expected = plainly_of_all(web, checks, world)
                    self.assertIs(is_world_of_all(web, checks, world), expected)
                    found.add(expected)
                self.assertIn(False if checks != plain_checks(web) else True, found)

    def test_worlds_by_chance_and_worlds_changed(self):
        seen = {True: 0, False: 0}
        for web, checks, chooser in cases(75, 80):
            whole = world_of_all(web, checks)
            for _ in range(6):
                for world in (changed_world(web, whole, chooser), some_world(web, chooser, 4)):
                    if world is not None:
                        expected = plainly_of_all(web, checks, world)
                        self.assertIs(is_world_of_all(web, checks, world), expected)
                        seen[expected] += 1
        self.assertGreater(min(seen.values()), 50)

    def test_ways_between_unlike_ends_need_not_disagree(self):
        web = Web(4, ((0, 1), (2, 3), (0, 1)))
        self.assertIs(is_world_of_all(web, [], ((1, 2, 1, 2), ((0,), (0,), (1,)))), True)
        self.assertIs(is_world_of_all(web, [], ((2, 2, 2, 2), ((0, 1), (0, 1), (0, 1)))), False)

    def test_no_worlds(self):
        world = world_of_all(T, C)
        for thing in (*WRONG_TUPLES, list(world), (world,), (*world, ()), (list(world[0]), world[1]),
                      (world[0], list(world[1])), (world[0][1:], world[1]), (world[0], world[1][1:]),
                      (tuple(map(bool, world[0])), world[1]), None):
            self.assertIs(is_world_of_all(T, C, thing), False)
        # With only one place, this judges a world without arrows.
        self.assertIs(is_world_of_all(Web(1, ()), [], ((3,), ())), True)
        self.assertIs(is_world_of_all(Web(1, ()), [], ((True,), ())), False)

    def test_errors_in_their_order(self):
        wide = web_of_ways(1501)
        for checks in NO_CHECKS:
            for web in (T, wide):
                with self.assertRaises(NoChecks):
                    world_of_all(web, checks)
                with self.assertRaises(NoChecks):
                    is_world_of_all(web, checks, None)

    def test_1500_ways_and_one_more(self):
        web = web_of_ways(1500)
        checks = [((54,), (55,)), ((56,), (57,))]
        world = world_of_all(web, checks)
        self.assertIs(is_world_of_all(web, checks, world), True)
        self.assertIs(is_world_of_all(web, checks[:1], world), False)
        self.assertIs(is_world_of_all(web, (), None), False)
        web = web_of_ways(1501)
        for call in (lambda: world_of_all(web, checks), lambda: is_world_of_all(web, checks, world),
                     lambda: is_world_of_all(web, [], None), lambda: world_of_all(double_row(59), []),
                     lambda: world_of_all(many_ways_web(1500), [])):
            with self.assertRaises(TooMany) as caught:
                call()
            self.assertEqual(caught.exception.most, 1500)

    def test_webs_beyond_what_can_be_constructed(self):
        web = beside(web_of_ways(1485), web_of_ways(1485))
        with self.assertRaises(TooMany):
            world_of_all(web, [])
        web = beside(beside(Web(60, ()), Web(60, ())), Web(2, ((0, 1), (0, 1))))
        self.assertIs(is_world_of_all(web, [], world_of_all(web, [])), True)
        self.assertIs(is_world_of_all(web, [], world_of_all(web, [((0,), (1,))])), False)


class BeyondTest(unittest.TestCase):
    def test_of_the_examples(self):
        across = ((0, 2), (1, 3))
        self.assertEqual(beyond(T, C, [across]), ())
        self.assertEqual(beyond(T, C[:1], [across, *C]), (0, 2))
        self.assertEqual(beyond(T, (), (across, *C)), (0, 1, 2))
        self.assertEqual(beyond(T, [across], C), (0, 1))
        self.assertEqual(beyond(T, C, C), ())
        self.assertEqual(beyond(T, C, []), ())
        self.assertEqual(beyond(T, [], ()), ())

    def test_each_alone_by_the_checks_not_by_one_another(self):
        more = [((0,), (1,)), ((0,), (2,)), ((1,), (2,))]
        self.assertEqual(beyond(H, [], more), (0, 1, 2))
        self.assertEqual(beyond(H, more[:1], more), (1, 2))
        self.assertEqual(beyond(H, more[1:], more), ())

    def test_against_exchanging_all_ways(self):
        for web, checks, chooser in cases(76, 100):
            more = plain_checks(web)
            chooser.shuffle(more)
            more = more[:20]
            home = home_of_ways(web, checks)
            expected = tuple(k for k, (one, other) in enumerate(more) if home[one] != home[other])
            self.assertEqual(beyond(web, checks, more), expected)
            self.assertEqual(beyond(web, tuple(checks), tuple(more)), expected)

    def test_errors_in_their_order(self):
        wide = many_ways_web(1501)
        much = [((0, 30), (1, 30))]
        for thing in NO_CHECKS:
            with self.assertRaises(NoChecks):
                beyond(T, thing, C)
            with self.assertRaises(NoChecks):
                beyond(T, C, thing)
            with self.assertRaises(NoChecks):
                beyond(wide, thing, much)
            with self.assertRaises(NoChecks):
                beyond(wide, much, thing)

    def test_1500_ways_between_the_ends_and_one_more(self):
        much = ((0, 30), (1, 30))
        few = ((0,), (1,))
        self.assertEqual(beyond(many_ways_web(1500), [few], [much, ((0, 30), (2, 30))]), (1,))
        web = many_ways_web(1501)
        for more in ([much], [few, much], (much, few)):
            with self.assertRaises(TooMany) as caught:
                beyond(web, [few], more)
            self.assertEqual(caught.exception.most, 1500)
        # Only the ends of the checks of more count.
        self.assertEqual(beyond(web, [much], [few, ((30,), (31,))]), (0, 1))
        self.assertEqual(beyond(web, [few, much], [few]), ())
        self.assertEqual(beyond(web, [few], ()), ())


class ListsOfWrongThings(unittest.TestCase):
    def test_odd_tuples_are_no_checks(self):
        for thing in ODD_TUPLES:
            if thing != ():
                for call in (lambda: world_of_all(T, thing), lambda: beyond(T, thing, C), lambda: beyond(T, C, thing)):
                    with self.assertRaises(NoChecks):
                        call()

    def test_flags_are_no_arrows(self):
        for check in (((False,), (True,)), ((0,), (True,)), ((False,), (1,))):
            with self.assertRaises(NoChecks):
                beyond(S, [], [check])


if __name__ == "__main__":
    unittest.main()
