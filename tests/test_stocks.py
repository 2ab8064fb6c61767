"""7.3 and what 0.2 to 0.5 say of enoughchecks/stocks.py."""

import itertools
import random
import unittest

from enoughchecks.changes import cube
from enoughchecks.enough import enough, spare
from enoughchecks.errors import NoChecks, NoPrices
from enoughchecks.leasts import least_number
from enoughchecks.stocks import cheapest
from enoughchecks.webs import Web
from tests.support import C, H, NO_CHECKS, NO_NUMBERS_NO_TUPLES, ODD_TUPLES, S, T, WRONG_NUMBERS, plain_checks
from tests.support import plainly_enough, row_web, some_webs

EVERY_OF_H = [((0,), (1,)), ((0,), (2,)), ((1,), (2,))]
GREAT = 10 ** 59


def plain_lots(web, stock):
    """All lots of a stock that are enough and have no spare check, found by trying all lots."""
    good = [lot for many in range(len(stock) + 1) for lot in itertools.combinations(range(len(stock)), many)
            if plainly_enough(web, [stock[k] for k in lot])]
    return [lot for lot in good if not any(set(other) < set(lot) for other in good)]


def plainly_cheapest(web, stock, prices):
    return min([(sum(prices[k] for k in lot), lot) for lot in plain_lots(web, stock)], default=None)


class CheapestTest(unittest.TestCase):
    def test_of_the_examples(self):
        self.assertEqual(cheapest(H, EVERY_OF_H, (5, 1, 2)), (3, (1, 2)))
        self.assertEqual(cheapest(H, tuple(EVERY_OF_H), (5, 1, 2)), (3, (1, 2)))
        self.assertEqual(cheapest(T, C, (7, 8)), (15, (0, 1)))
        self.assertEqual(cheapest(T, [((0, 2), (1, 3)), *C[::-1]], (0, 3, 4)), (7, (1, 2)))

    def test_against_trying_all_lots(self):
        chooser = random.Random(101)
        none = 0
        for web in some_webs(120, 5, 7):
            every = plain_checks(web)
            for most in (1, 3, GREAT):
                stock = chooser.sample(every, min(len(every), 7))
                prices = tuple(chooser.randint(0, most) for _ in stock)
                expected = plainly_cheapest(web, stock, prices)
                self.assertEqual(cheapest(web, stock, prices), expected)
                self.assertEqual(cheapest(web, tuple(stock), prices), expected)
                none += expected is None
        self.assertGreater(none, 10)

    def test_all_prices_of_a_small_stock(self):
        web = Web(3, ((0, 1), (0, 1), (1, 2), (1, 2)))
        stock = [((2,), (3,)), ((0, 2), (1, 3)), ((0,), (1,)), ((0, 2), (1, 2))]
        for prices in itertools.product(range(3), repeat=4):
            self.assertEqual(cheapest(web, stock, prices), plainly_cheapest(web, stock, prices))
        for stock in itertools.permutations(EVERY_OF_H):
            for prices in itertools.product(range(3), repeat=3):
                self.assertEqual(cheapest(H, stock, prices), plainly_cheapest(H, stock, prices))

    def test_prices_alike_and_prices_of_nought(self):
        for price in (0, 1, GREAT):
            self.assertEqual(cheapest(H, EVERY_OF_H, (price,) * 3), (2 * price, (0, 1)))
        self.assertEqual(cheapest(H, EVERY_OF_H, (1, 0, 0)), (0, (1, 2)))
        self.assertEqual(cheapest(H, EVERY_OF_H, (0, 1, 0)), (0, (0, 2)))
        self.assertEqual(cheapest(H, EVERY_OF_H, (1, 1, 0)), (1, (0, 2)))
        # A check that costs nothing is left out all the same if it is spare.
        self.assertEqual(cheapest(S, [((0, 2), (1, 2)), ((0,), (1,))], (0, 5)), (5, (1,)))

    def test_a_lot_with_a_spare_check_is_never_told(self):
        chooser = random.Random(102)
        for web in some_webs(60):
            stock = plain_checks(web)
            chooser.shuffle(stock)
            price, lot = cheapest(web, stock, (0,) * len(stock))
            chosen = [stock[k] for k in lot]
            self.assertEqual((price, len(lot)), (0, least_number(web)))
            self.assertIs(enough(web, chosen), True)
            self.assertEqual(spare(web, chosen), ())
            self.assertIs(type(lot), tuple)

    def test_no_stock_and_stocks_that_are_not_enough(self):
        for stock in ([], ()):
            self.assertIsNone(cheapest(T, stock, ()))
            for web in (Web(1, ()), Web(60, ()), row_web(60)):
                self.assertEqual(cheapest(web, stock, ()), (0, ()))
        self.assertIsNone(cheapest(T, C[:1], (0,)))
        self.assertIsNone(cheapest(T, [C[1], ((0, 2), (1, 3))], (0, 0)))
        self.assertIsNone(cheapest(H, EVERY_OF_H[1:2], (4,)))

    def test_great_stocks_and_great_prices(self):
        web = Web(2, ((0, 1),) * 60)
        stock = list(itertools.combinations([(arrow,) for arrow in range(60)], 2))
        prices = tuple(GREAT - k for k in range(len(stock)))
        # The last checks are the cheapest, and each lesser arrow is joined last by its last check.
        lot = tuple(stock.index(((arrow,), (59,))) for arrow in range(59))
        self.assertEqual(cheapest(web, stock, prices), (sum(prices[k] for k in lot), lot))
        self.assertEqual(cheapest(web, stock, (GREAT,) * len(stock)), (59 * GREAT, tuple(range(59))))
        stock = plain_checks(cube(4))
        self.assertEqual(len(cheapest(cube(4), stock, (1,) * len(stock))[1]), 24)

    def test_errors_in_their_order(self):
        for stock in NO_CHECKS:
            with self.assertRaises(NoChecks):
                cheapest(T, stock, None)
        for prices in (*NO_NUMBERS_NO_TUPLES, *ODD_TUPLES, 0, 1, -1, GREAT, [1, 2], (1,), (1, 2, 3), (-1, 2), (1, -1)):
            with self.assertRaises(NoPrices):
                cheapest(T, C, prices)
        for price in WRONG_NUMBERS:
            if not isinstance(price, int) or isinstance(price, bool) or price < 0:
                with self.assertRaises(NoPrices):
                    cheapest(T, C, (0, price))
                with self.assertRaises(NoPrices):
                    cheapest(T, C, (price, 0))
        for prices in ([], (0,), None, (None,)):
            with self.assertRaises(NoPrices):
                cheapest(T, [], prices)
        # Prices are judged also where the stock is not enough.
        with self.assertRaises(NoPrices):
            cheapest(T, C[:1], (True,))

    def test_nothing_is_changed(self):
        stock = list(EVERY_OF_H)
        cheapest(H, stock, (5, 1, 2))
        self.assertEqual(stock, EVERY_OF_H)


if __name__ == "__main__":
    unittest.main()
