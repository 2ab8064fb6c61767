"""8.2 and what 0.2 to 0.5 say of enoughchecks/partings.py."""

import itertools
import random
import unittest

from enoughchecks.changes import beside, mirrored
from enoughchecks.errors import TooMany
from enoughchecks.papers import paper, surely
from enoughchecks.partings import is_parting, parting
from enoughchecks.webs import Web, ends
from enoughchecks.worlds import is_world
from tests.support import H, S, WRONG_TUPLES, agree, all_worlds, changed_world, double_row, plain_checks, plain_homes
from tests.support import plain_ways, plainly_so, raises_pair_errors, raises_told_errors, raises_told_errors_first
from tests.support import shuffled_world, some_checks, some_told, some_webs, some_world, ways_of

SORTS = ("one", "onto")
STRUCK = [((0, 2), (1, 2))]


def plainly_parting(web, checks, sort, told, one, other, world):
    return (plainly_so(web, sort, told, world) and all(agree(web, world, *check) for check in checks)
            and not agree(web, world, one, other))


def most_apart(web, checks, sort, told, v):
    """The greatest number of ways from one place to v no two of which surely follow from one another."""
    homes = plain_homes(web, checks, sort, told)
    return max(len({homes[way] for way in plain_ways(web, u, v)}) for u in range(web.places))


def cases(seed, many=60, most_arrows=8, most=4):
    chooser = random.Random(seed)
    for web in some_webs(many, 5, most_arrows):
        for sort in SORTS:
            yield web, some_checks(web, chooser, most), sort, some_told(web, chooser), chooser


class PartingTest(unittest.TestCase):
    def test_of_the_examples(self):
        self.assertIsNone(parting(S, STRUCK, "one", (2,), (0,), (1,)))
        found = parting(S, STRUCK, "onto", (2,), (0,), (1,))
        self.assertIs(plainly_parting(S, STRUCK, "onto", (2,), (0,), (1,), found), True)
        self.assertIs(is_parting(S, STRUCK, "onto", (2,), (0,), (1,), found), True)
        self.assertIs(is_parting(S, STRUCK, "one", (2,), (0,), (1,), found), False)

    def test_by_what_it_is_and_the_fourth_fact(self):
        none = 0
        for web, checks, sort, told, chooser in cases(141, 120):
            every = plain_checks(web)
            for pair in chooser.sample(every, min(len(every), 6)):
                one, other = chooser.sample(pair, 2)
                if sort == "onto" and most_apart(web, checks, sort, told, ends(web, one)[1]) > 10:
                    continue
                found = parting(web, checks, sort, told, one, other)
                follow = surely(web, checks, sort, told, one, other)
                self.assertIs(found is None, follow)
                self.assertIs(paper(web, checks, sort, told, one, other) is None, not follow)
                self.assertIs(is_parting(web, checks, sort, told, one, other, found), not follow)
                none += follow
                if found is not None:
                    self.assertIs(is_world(web, found), True)
                    self.assertIs(plainly_parting(web, checks, sort, told, one, other, found), True)
                    shuffled = shuffled_world(web, found, chooser)
                    self.assertIs(is_parting(web, checks, sort, told, one, other, shuffled), True)
        self.assertGreater(none, 20)

    def test_all_arrows_told_and_none(self):
        for web, checks, sort, _, _ in cases(142, 60, 6):
            for told in ((), tuple(range(len(web.arrows)))):
                for one, other in plain_checks(web)[:5]:
                    found = parting(web, checks, sort, told, one, other)
                    if surely(web, checks, sort, told, one, other):
                        self.assertIsNone(found)
                    else:
                        self.assertIs(plainly_parting(web, checks, sort, told, one, other, found), True)

    def test_no_way_parts_itself(self):
        for web, checks, sort, told, _ in cases(143, 20, 6):
            for way in ways_of(web)[:6]:
                self.assertIsNone(parting(web, checks, sort, told, way, way))
                world = ((1,) * web.places, ((0,),) * len(web.arrows))
                self.assertIs(is_parting(web, checks, sort, told, way, way, world), False)

    def test_places_without_things(self):
        # Nothing leads to the place 0, and nothing from the place 3 to the ways that are parted.
        web = Web(4, ((1, 2), (1, 2), (0, 1), (0, 3)))
        for sort, told in itertools.product(SORTS, ((), (0,), (0, 1), (2, 3), (0, 1, 2, 3))):
            found = parting(web, [], sort, told, (0,), (1,))
            self.assertIs(plainly_parting(web, [], sort, told, (0,), (1,), found), True)
        bare = ((0, 1, 2, 0), ((0,), (1,), (), ()))
        for told in ((), (0,), (0, 1), (0, 1, 2, 3)):
            self.assertIs(is_parting(web, [], "one", told, (0,), (1,), bare), True)
        # An arrow from no thing is onto only where it leads to no thing.
        self.assertIs(is_parting(web, [], "onto", (3,), (0,), (1,), bare), True)
        self.assertIs(is_parting(web, [], "onto", (2,), (0,), (1,), bare), False)
        self.assertIs(is_parting(web, [], "onto", (0,), (0,), (1,), bare), False)
        self.assertIs(is_parting(web, [], "onto", (3,), (0,), (1,), ((0, 1, 2, 10 ** 59), bare[1])), False)

    def test_the_mirrored_web_with_the_other_sort(self):
        for web, checks, sort, told, _ in cases(144, 40, 6):
            other_sort = {"one": "onto", "onto": "one"}[sort]
            back = [tuple(sorted((one[::-1], other[::-1]))) for one, other in checks]
            for one, other in plain_checks(web)[:4]:
                found = parting(web, checks, sort, told, one, other)
                turned = parting(mirrored(web), back, other_sort, told, one[::-1], other[::-1])
                self.assertIs(found is None, turned is None)

    def test_10_ways_apart_and_one_more(self):
        for many in (9, 10, 11, 12):
            web = Web(3, ((0, 1),) * many + ((1, 2),))
            self.assertIs(is_parting(web, [], "one", (many,), (0,), (1,),
                                     parting(web, [], "one", (many,), (0,), (1,))), True)
            # Checks make ways follow, so that fewer of them are apart.
            checks = [((0,), (k,)) for k in range(1, many - 9)]
            for told in ((), (many,), (0, many)):
                found = parting(web, checks, "onto", told, (0,), (many - 1,))
                self.assertIs(plainly_parting(web, checks, "onto", told, (0,), (many - 1,), found), True)
                if many > 10:
                    for one, other in (((0,), (1,)), ((0,), (0,)), ((0, many), (1, many))):
                        for fewer in ([], checks[1:]):
                            with self.assertRaises(TooMany) as caught:
                                parting(web, fewer, "onto", told, one, other)
                            self.assertEqual(caught.exception.most, 10)
            if many <= 10:
                self.assertIsNone(parting(web, [], "onto", (), (many,), (many,)))

    def test_more_than_10_ways_from_another_place_to_the_end(self):
        web = Web(3, ((0, 1),) * 6 + ((1, 2),) * 2)
        self.assertIs(is_parting(web, [], "onto", (), (0,), (1,), parting(web, [], "onto", (), (0,), (1,))), True)
        for one, other in (((6,), (7,)), ((6,), (6,)), ((0, 6), (0, 7))):
            with self.assertRaises(TooMany) as caught:
                parting(web, [], "onto", (), one, other)
            self.assertEqual(caught.exception.most, 10)
        checks = [((0,), (1,))]
        found = parting(web, checks, "onto", (0, 1, 2, 3, 4, 5), (6,), (7,))
        self.assertIs(is_parting(web, checks, "onto", (0, 1, 2, 3, 4, 5), (6,), (7,), found), True)
        # What is struck makes fewer, too: then both last arrows surely are alike.
        checks = [((0, 6), (0, 7))]
        self.assertIsNone(parting(web, checks, "onto", (0,), (6,), (7,)))
        with self.assertRaises(TooMany):
            parting(web, [((0, 6), (1, 6))], "onto", (0,), (6,), (7,))

    def test_300_ways_and_one_more(self):
        web = Web(4, ((0, 1),) * 299 + ((2, 3),))
        found = parting(web, [], "one", (299,), (0,), (298,))
        self.assertIs(is_parting(web, [], "one", (299,), (0,), (298,), found), True)
        with self.assertRaises(TooMany) as caught:
            parting(web, [], "onto", (299,), (0,), (298,))
        self.assertEqual(caught.exception.most, 10)
        self.assertIsNone(parting(web, [], "onto", (), (299,), (299,)))
        web = Web(4, ((0, 1),) * 300 + ((2, 3),))
        for sort in SORTS:
            for one, other in (((0,), (1,)), ((300,), (300,))):
                with self.assertRaises(TooMany) as caught:
                    parting(web, [], sort, (), one, other)
                self.assertEqual(caught.exception.most, 300)
        world = ((1, 2, 0, 0), ((0,),) * 299 + ((1,), ()))
        self.assertIs(is_parting(web, [], "onto", (300,), (0,), (299,), world), True)
        self.assertIs(is_parting(web, [], "onto", (300,), (0,), (298,), world), False)
        self.assertIs(is_parting(double_row(59), [], "one", (), (0,), (1,), None), False)

    def test_webs_beyond_what_can_be_constructed(self):
        web = beside(beside(Web(60, ()), Web(60, ())), S)
        for sort in SORTS:
            found = parting(web, [], sort, (2,), (0,), (1,))
            self.assertIs(is_parting(web, [], sort, (2,), (0,), (1,), found), True)


class IsPartingTest(unittest.TestCase):
    def test_all_small_worlds(self):
        chooser = random.Random(145)
        for web in (H, S, Web(3, ((0, 1), (1, 2), (1, 2))), Web(3, ((0, 1), (1, 2), (0, 2)))):
            for sort in SORTS:
                for checks in ([], some_checks(web, chooser, 1), some_checks(web, chooser, 2)):
                    told = some_told(web, chooser)
                    one, other = chooser.choice(plain_checks(web))
                    found = False
                    for world in all_worlds(web, 2):
                        expected = plainly_parting(web, checks, sort, told, one, other, world)
                        self.assertIs(is_parting(web, checks, sort, told, one, other, world), expected)
                        found = found or expected
                    self.assertIs(parting(web, checks, sort, told, one, other) is not None, found)

    def test_worlds_by_chance_and_worlds_changed(self):
        seen = {True: 0, False: 0}
        for web, checks, sort, told, chooser in cases(146, 80, 6):
            for one, other in plain_checks(web)[:3]:
                whole = parting(web, checks, sort, told, one, other)
                worlds = [some_world(web, chooser, 3) for _ in range(4)]
                if whole is not None:
                    worlds += [changed_world(web, whole, chooser) for _ in range(4)]
                for world in worlds:
                    expected = plainly_parting(web, checks, sort, told, one, other, world)
                    self.assertIs(is_parting(web, checks, sort, told, one, other, world), expected)
                    seen[expected] += 1
        self.assertGreater(min(seen.values()), 50)

    def test_the_order_of_both_ways_does_not_matter(self):
        world = ((1, 2, 2), ((0,), (1,), (0, 1)))
        for one, other in (((0,), (1,)), ((1,), (0,)), ((0, 2), (1, 2))):
            self.assertIs(is_parting(S, [], "one", (2,), one, other, world), True)
            self.assertIs(is_parting(S, [], "onto", (2,), one, other, world), True)
            self.assertIs(is_parting(S, [], "onto", (0,), one, other, world), False)
            self.assertIs(is_parting(S, [((0,), (1,))], "one", (), one, other, world), False)

    def test_no_worlds(self):
        world = ((1, 2, 2), ((0,), (1,), (0, 1)))
        for thing in (*WRONG_TUPLES, list(world), (world,), (*world, ()), (list(world[0]), world[1]),
                      (world[0], list(world[1])), (world[0][1:], world[1]), (world[0], world[1][1:]),
                      ((True, 2, 2), world[1]), (world[0], ((False,), (1,), (0, 1))), ((1, 2, 1), world[1])):
            for sort in SORTS:
                self.assertIs(is_parting(S, [], sort, (), (0,), (1,), thing), False)
        self.assertIs(is_parting(S, [], "one", (), (0,), (1,), world), True)


class ErrorsTest(unittest.TestCase):
    CALLS = (parting, lambda *things: is_parting(*things, None), lambda *things: is_parting(*things, ((), ())))

    def test_in_their_order(self):
        for call in self.CALLS:
            raises_told_errors(self, call)
            raises_told_errors_first(self, call)
            raises_pair_errors(self, call)


if __name__ == "__main__":
    unittest.main()
