"""8.3 and what 0.2 to 0.5 say of enoughchecks/roots.py."""

import random
import unittest

from enoughchecks.changes import cube, floor
from enoughchecks.errors import NoPlace, NoRoot
from enoughchecks.papers import enough_so
from enoughchecks.roots import root_checks, root_tree
from enoughchecks.webs import Web
from tests.support import D, H, S, T, WRONG_NUMBERS, WRONG_TUPLES, double_row, plain_checks, plain_ways, row_web
from tests.support import some_webs, ways_of, wide_web


def plain_roots(web):
    """The places from which ways lead to all others."""
    return [root for root in range(web.places)
            if all(plain_ways(web, root, place) for place in range(web.places) if place != root)]


def plain_tree(web, root):
    return tuple(sorted(min(arrow for arrow, (_, end) in enumerate(web.arrows) if end == place)
                        for place in range(web.places) if place != root))


def plain_tree_way(web, tree, root, place):
    """The one way from the root to a place that has arrows of the tree alone; () for the root."""
    found = [way for way in plain_ways(web, root, place) if set(way) <= set(tree)]
    return () if place == root else found[0]


def plain_root_checks(web, root):
    tree = plain_tree(web, root)
    found = []
    for arrow, (begin, end) in enumerate(web.arrows):
        if arrow not in tree:
            found.append(tuple(sorted((plain_tree_way(web, tree, root, begin) + (arrow,),
                                       plain_tree_way(web, tree, root, end)))))
    return sorted(found)


def rooted_webs(many, most_places=6, most_arrows=11):
    """Webs with a root, and their root."""
    found = [(web, root) for web in some_webs(many, most_places, most_arrows) for root in plain_roots(web)]
    chooser = random.Random(83)
    for _ in range(many // 4):
        places = chooser.randint(1, most_places)
        order = chooser.sample(range(places), places)
        arrows = [(order[chooser.randrange(k)], order[k]) for k in range(1, places)]
        for _ in range(chooser.randint(0, 5) if places > 1 else 0):
            low, high = sorted(chooser.sample(range(places), 2))
            arrows.append((order[low], order[high]))
        chooser.shuffle(arrows)
        found.append((Web(places, tuple(arrows)), order[0]))
    return found


class RootTest(unittest.TestCase):
    def test_of_the_examples(self):
        self.assertEqual(root_tree(T, 0), (0, 1, 2))
        self.assertEqual(root_checks(T, 0), [((0, 2), (1, 3)), ((0, 4), (1,))])
        self.assertEqual(root_tree(H, 0), (0,))
        self.assertEqual(root_checks(H, 0), [((0,), (1,)), ((0,), (2,))])
        self.assertEqual(root_tree(S, 0), (0, 2))
        self.assertEqual(root_checks(S, 0), [((0,), (1,))])
        self.assertEqual(root_tree(D, 0), (0, 1, 2))

    def test_against_the_words(self):
        seen = 0
        for web, root in rooted_webs(200):
            self.assertEqual(root_tree(web, root), plain_tree(web, root))
            self.assertIs(type(root_tree(web, root)), tuple)
            found = root_checks(web, root)
            self.assertEqual(found, plain_root_checks(web, root))
            self.assertIs(type(found), list)
            self.assertLessEqual(set(found), set(plain_checks(web)))
            self.assertEqual(len(found), len(web.arrows) - web.places + 1)
            seen += len(found) > 1
        self.assertGreater(seen, 20)

    def test_the_way_along_the_tree_may_be_the_greater_one(self):
        # The arrow 2 ends where the arrow 1 does, and its way along the tree is the lesser one.
        web = Web(3, ((0, 2), (0, 1), (2, 1)))
        self.assertEqual(root_tree(web, 0), (0, 1))
        self.assertEqual(root_checks(web, 0), [((0, 2), (1,))])
        web = Web(3, ((1, 2), (0, 1), (0, 2)))
        self.assertEqual(root_tree(web, 0), (0, 1))
        self.assertEqual(root_checks(web, 0), [((1, 0), (2,))])

    def test_roots_of_any_number(self):
        web = Web(4, ((2, 0), (0, 3), (2, 1), (1, 3), (2, 3)))
        self.assertEqual(root_tree(web, 2), (0, 1, 2))
        self.assertEqual(root_checks(web, 2), [((0, 1), (2, 3)), ((0, 1), (4,))])

    def test_a_web_of_one_place_and_a_tree_alone(self):
        self.assertEqual(root_tree(Web(1, ()), 0), ())
        self.assertEqual(root_checks(Web(1, ()), 0), [])
        self.assertEqual(root_tree(row_web(60), 0), tuple(range(59)))
        self.assertEqual(root_checks(row_web(60), 0), [])

    def test_the_fifth_fact_with_the_tree_told_to_be_onto(self):
        for web, root in rooted_webs(80):
            if len(ways_of(web)) <= 300:
                self.assertIs(enough_so(web, root_checks(web, root), "onto", root_tree(web, root)), True)
        self.assertIs(enough_so(cube(3), root_checks(cube(3), 0), "onto", root_tree(cube(3), 0)), True)

    def test_the_fifth_fact_with_fewer_checks(self):
        chooser = random.Random(84)
        seen = 0
        for web, root in rooted_webs(80):
            many = len(web.arrows) - web.places + 1
            every = plain_checks(web)
            if many == 0 or len(ways_of(web)) > 100:
                continue
            lists = [chooser.sample(every, min(len(every), many - 1)) for _ in range(3)]
            lists.append(root_checks(web, root)[1:])
            for checks in lists:
                for sort in ("one", "onto"):
                    self.assertIs(enough_so(web, checks, sort, tuple(range(len(web.arrows)))), False)
                    seen += 1
        self.assertGreater(seen, 50)

    def test_great_webs(self):
        web = wide_web()
        self.assertEqual(len(root_tree(web, 0)), 59)
        self.assertEqual(root_tree(web, 0), tuple(range(0, 354, 6)))
        self.assertEqual(len(root_checks(web, 0)), 341)
        web = floor(row_web(60), row_web(20))
        self.assertEqual(len(root_tree(web, 0)), 1199)
        self.assertEqual(len(root_checks(web, 0)), len(web.arrows) - 1199)
        self.assertEqual(len(root_checks(cube(6), 0)), 6 * 32 - 63)

    def test_each_list_is_new(self):
        for web in (T, H, Web(1, ())):
            root_checks(web, 0).append("x")
            self.assertEqual(root_checks(web, 0), plain_root_checks(web, 0))


class ErrorsTest(unittest.TestCase):
    def test_no_place(self):
        for call in (root_tree, root_checks):
            for thing in (*WRONG_NUMBERS, *WRONG_TUPLES[3:], 4, -1):
                with self.assertRaises(NoPlace):
                    call(T, thing)
            # What is no place of a web without a root is no place all the same.
            with self.assertRaises(NoPlace):
                call(Web(5, ()), 5)
            with self.assertRaises(NoPlace):
                call(Web(1, ()), 1)
            with self.assertRaises(NoPlace):
                call(Web(1, ()), False)

    def test_no_root(self):
        for call in (root_tree, root_checks):
            for web in some_webs(80):
                roots = plain_roots(web)
                self.assertLessEqual(len(roots), 1)
                for place in range(web.places):
                    if place not in roots:
                        with self.assertRaises(NoRoot):
                            call(web, place)
            for web, place in ((T, 1), (T, 3), (H, 1), (double_row(59), 59), (Web(5, ()), 4), (Web(2, ()), 0)):
                with self.assertRaises(NoRoot):
                    call(web, place)


if __name__ == "__main__":
    unittest.main()
