"""The examples of the document."""

import unittest

from enoughchecks.chains import classes, exchanged
from enoughchecks.changes import cube
from enoughchecks.clusters import clusters, holes
from enoughchecks.counting import least_many
from enoughchecks.enough import is_small_world, trees
from enoughchecks.leasts import least_list, least_number
from enoughchecks.ledgers import Ledger
from enoughchecks.logs import log
from enoughchecks.papers import is_paper, surely
from enoughchecks.roots import root_checks, root_tree
from enoughchecks.stocks import cheapest
from enoughchecks.sums import full_rank
from enoughchecks.suspects import is_bar, never_seen, suspects, unseen
from enoughchecks.texts import checks_text, web_text
from enoughchecks.ways import ways
from enoughchecks.webs import Web, between, passed

d = Web(4, ((0, 1), (0, 2), (1, 3), (2, 3)))
t = Web(4, ((0, 1), (0, 2), (1, 3), (2, 3), (1, 2)))
h = Web(2, ((0, 1), (0, 1), (0, 1)))
s = Web(3, ((0, 1), (0, 1), (1, 2)))
c = [((0, 4), (1,)), ((2,), (4, 3))]


class Examples(unittest.TestCase):
    def test_e01(self):
        self.assertEqual(ways(t, 0, 3), [(0, 2), (0, 4, 3), (1, 3)])
        self.assertEqual(passed(t, (0, 4, 3)), (0, 1, 2, 3))
        self.assertEqual(between(t, 0, 3), (1, 2))

    def test_e02(self):
        self.assertEqual(clusters(d, 0, 3), [("places", (1,)), ("places", (2,))])
        self.assertEqual(clusters(t, 0, 3), [("places", (1, 2))])
        self.assertEqual(clusters(t, 0, 2), [("arrow", 1), ("places", (1,))])

    def test_e03(self):
        self.assertEqual(holes(t, [((0, 2), (1, 3))]), [(0, 2), (1, 3)])
        self.assertEqual(trees(t, c), {(0, 2): (0,), (1, 3): (1,)})
        self.assertIs(is_small_world(h, [((0,), (1,))], ((1, 2), ((0,), (0,), (1,)))), True)

    def test_e04(self):
        self.assertEqual(exchanged(t, c, (0, 4, 3), (0, 0, False)), (1, 3))
        self.assertEqual(classes(t, c[:1], 0, 3), [((0, 2),), ((0, 4, 3), (1, 3))])

    def test_e05(self):
        self.assertEqual(least_list(t), (((0, 4), (1,)), ((2,), (4, 3))))
        self.assertEqual(least_list(h), (((0,), (1,)), ((0,), (2,))))
        self.assertEqual(least_many(h), 3)
        self.assertEqual(least_number(cube(3)), 6)

    def test_e06(self):
        self.assertEqual(cheapest(h, [((0,), (1,)), ((0,), (2,)), ((1,), (2,))], (5, 1, 2)), (3, (1, 2)))

    def test_e07(self):
        lines = (((0, 2), (1, 2), ("check", 0)), ((0,), (1,), ("strike", 0)))
        self.assertIs(is_paper(s, [((0, 2), (1, 2))], "one", (2,), (0,), (1,), lines), True)
        self.assertIs(surely(s, [((0, 2), (1, 2))], "onto", (2,), (0,), (1,)), False)

    def test_e08(self):
        self.assertEqual(root_tree(t, 0), (0, 1, 2))
        self.assertEqual(root_checks(t, 0), [((0, 2), (1, 3)), ((0, 4), (1,))])
        self.assertEqual(full_rank(t), 2)

    def test_e09(self):
        self.assertEqual(suspects(t, c, (0,)), (0, 1, 4))
        self.assertEqual(suspects(t, c, (0, 1)), (4,))
        self.assertIs(is_bar(t, c, (0,), 2, ("beside", 0)), True)

    def test_e10(self):
        self.assertEqual(unseen(d, []), (0, 1, 2, 3))
        self.assertEqual(never_seen(s), (2,))

    def test_e11(self):
        self.assertEqual(web_text(s), "places 3\n0 1\n0 1\n1 2\n")
        self.assertEqual(checks_text(s, [((0, 2), (1, 2))]), "0 2 = 1 2\n")

    def test_e12(self):
        ledger = Ledger(s)
        ledger.passed(((0,), (1,)))
        self.assertEqual(ledger.arrow(0, 2), 3)
        self.assertEqual(ledger.renewed(0), (0,))
        self.assertEqual(ledger.checks(), ((((0,), (1,)), "void"),))
        self.assertEqual(len(ledger.due()), 2)
        self.assertEqual(log(ledger), "passed 0 = 1\narrow 0 2\nrenewed 0\n")


if __name__ == "__main__":
    unittest.main()
