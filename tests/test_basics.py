"""What the modules share: integers and lots of 0.2, and what links hold together."""

import itertools
import random
import unittest

from enoughchecks.basics import is_lot, is_whole, joining, parts, whole_below
from tests.support import NO_NUMBERS_NO_TUPLES, WRONG_NUMBERS, WRONG_TUPLES, held_together


class IntegersTest(unittest.TestCase):
    def test_integers_from_0_on(self):
        for thing in (0, 1, 60, 10 ** 60 - 1):
            self.assertIs(is_whole(thing), True)
            self.assertIs(whole_below(thing, thing + 1), True)
            self.assertIs(whole_below(thing, thing), False)
        for thing in (-1, -10 ** 60, *NO_NUMBERS_NO_TUPLES, (), (0,)):
            self.assertIs(is_whole(thing), False)
            self.assertIs(whole_below(thing, 10 ** 60), False)

    def test_lots_are_ascending_tuples_each_item_once(self):
        for thing in ((), (0,), (4,), (0, 4), (1, 2, 3), (0, 1, 2, 3, 4)):
            self.assertIs(is_lot(thing, 5), True)
        for thing in ((5,), (-1,), (0, 0), (1, 0), (0, 2, 1), (0, 2, 2), (3, 4, 5), (-1, 0), [0, 1], (False,),
                      (0, True)):
            self.assertIs(is_lot(thing, 5), False)
        for thing in WRONG_TUPLES:
            self.assertIs(is_lot(thing, 5), thing == ())
        for thing in WRONG_NUMBERS:
            self.assertIs(is_lot((0, thing), 5), False)
        self.assertIs(is_lot((), 0), True)
        self.assertIs(is_lot((0,), 0), False)


class LinksTest(unittest.TestCase):
    def test_parts(self):
        self.assertEqual(parts([], []), [])
        self.assertEqual(parts([1, 4, 6, 7], [(7, 1)]), [(1, 7), (4,), (6,)])
        self.assertEqual(parts([1, 4, 6, 7], [(6, 4), (4, 6), (7, 6), (7, 7)]), [(1,), (4, 6, 7)])

    def test_links_in_any_number(self):
        chooser = random.Random(2)
        for _ in range(200):
            many = chooser.randint(1, 8)
            links = [(chooser.randrange(many), chooser.randrange(many)) for _ in range(chooser.randint(0, 9))]
            lots = [tuple(lot) for lot in held_together(range(many), links)]
            self.assertEqual(parts(list(range(many)), links), lots)
            # A link joins if there are fewer parts behind it than ahead of it.
            counts = [len(held_together(range(many), links[:at])) for at in range(len(links) + 1)]
            expected = [at for at, (before, after) in enumerate(itertools.pairwise(counts)) if after < before]
            self.assertEqual(joining(many, links), expected)


if __name__ == "__main__":
    unittest.main()
