"""8.4 and what 0.2 to 0.5 say of enoughchecks/sums.py."""

import fractions
import itertools
import random
import unittest

from enoughchecks.changes import beside, cube
from enoughchecks.enough import enough, further
from enoughchecks.errors import NoChecks, TooMany
from enoughchecks.leasts import least_list
from enoughchecks.roots import root_checks
from enoughchecks.sums import full_rank, is_numbers, numbers, rank
from enoughchecks.webs import Web
from tests.support import C, D, H, NO_CHECKS, S, T, WRONG_NUMBERS, WRONG_TUPLES, double_row, plain_checks, row_web
from tests.support import some_checks, some_webs
from tests.test_roots import plain_roots

GREAT = 10 ** 59


def plain_sum(thing, way):
    return sum(thing[arrow] for arrow in way)


def alike(thing, check):
    return plain_sum(thing, check[0]) == plain_sum(thing, check[1])


def plainly_numbers(web, checks, thing):
    """Whether integers make all checks alike, but not the sums of all ways, by the words of the document."""
    return all(alike(thing, check) for check in checks) and not all(alike(thing, check) for check in plain_checks(web))


def plain_rank(web, checks):
    """The rank over fractions, by the columns one after another."""
    rows = [[fractions.Fraction(one.count(arrow) - other.count(arrow)) for arrow in range(len(web.arrows))]
            for one, other in checks]
    found = 0
    for arrow in range(len(web.arrows)):
        at = next((k for k in range(found, len(rows)) if rows[k][arrow] != 0), None)
        if at is None:
            continue
        rows[found], rows[at] = rows[at], rows[found]
        for k in range(found + 1, len(rows)):
            by = rows[k][arrow] / rows[found][arrow]
            rows[k] = [item - by * other for item, other in zip(rows[k], rows[found])]
        found += 1
    return found


def tried_rank(web, checks):
    """The least number of the checks that settle all of them, by trying all lists of them with small integers."""
    settled = {tuple(alike(thing, check) for check in checks)
               for thing in itertools.product(range(-1, 2), repeat=len(web.arrows))}
    for many in range(len(checks) + 1):
        for lot in itertools.combinations(range(len(checks)), many):
            if all(all(row) for row in settled if all(row[k] for k in lot)):
                return many


class RankTest(unittest.TestCase):
    def test_of_the_examples(self):
        self.assertEqual(full_rank(T), 2)
        self.assertEqual(rank(T, C), 2)
        self.assertEqual(rank(T, C[:1]), 1)
        self.assertEqual(rank(T, [((0, 2), (1, 3))]), 1)
        self.assertEqual(full_rank(H), 2)
        self.assertEqual(rank(H, [((0,), (1,)), ((0,), (2,)), ((1,), (2,))]), 2)
        self.assertEqual(full_rank(D), 1)
        # The arrow that both ways have counts for nothing.
        self.assertEqual(rank(S, [((0, 2), (1, 2)), ((0,), (1,))]), 1)

    def test_against_fractions(self):
        chooser = random.Random(41)
        less = 0
        for web in some_webs(120, 6, 12):
            every = plain_checks(web)
            self.assertEqual(full_rank(web), plain_rank(web, every))
            self.assertEqual(rank(web, every), full_rank(web))
            for _ in range(4):
                checks = some_checks(web, chooser, 7)
                self.assertEqual(rank(web, checks), plain_rank(web, checks))
                less += rank(web, checks) < len(checks)
        self.assertGreater(less, 50)

    def test_against_trying_integers(self):
        chooser = random.Random(42)
        for web in some_webs(60, 4, 6):
            if len(web.arrows) <= 6:
                for _ in range(2):
                    checks = some_checks(web, chooser, 5)
                    self.assertEqual(rank(web, checks), tried_rank(web, checks))

    def test_the_fact_with_a_root(self):
        seen = 0
        for web in [*some_webs(150), T, H, S, cube(0), cube(1), cube(2), cube(3)]:
            for root in plain_roots(web):
                self.assertEqual(full_rank(web), len(web.arrows) - web.places + 1)
                self.assertEqual(rank(web, root_checks(web, root)), full_rank(web))
                seen += 1
        self.assertGreater(seen, 20)

    def test_without_checks_and_without_arrows(self):
        for checks in ([], ()):
            for web in (Web(1, ()), Web(60, ()), T, row_web(41)):
                self.assertEqual(rank(web, checks), 0)
        for web in (Web(1, ()), Web(60, ()), row_web(41)):
            self.assertEqual(full_rank(web), 0)

    def test_40_arrows_and_one_more(self):
        self.assertEqual(full_rank(Web(2, ((0, 1),) * 40)), 39)
        self.assertEqual(full_rank(double_row(20)), 20)
        self.assertEqual(rank(double_row(20), further(double_row(20), [])[3:]), 17)
        for web in (Web(2, ((0, 1),) * 41), row_web(42), double_row(21), cube(6)):
            for call in (lambda web: full_rank(web), lambda web: rank(web, []), lambda web: numbers(web, ()),
                         lambda web: rank(web, least_list(web)), lambda web: numbers(web, least_list(web))):
                with self.assertRaises(TooMany) as caught:
                    call(web)
                self.assertEqual(caught.exception.most, 40)


class NumbersTest(unittest.TestCase):
    def test_of_the_examples(self):
        self.assertIsNone(numbers(T, C))
        self.assertIs(plainly_numbers(T, C[:1], numbers(T, C[:1])), True)
        self.assertIsNone(numbers(S, [((0, 2), (1, 2))]))
        self.assertIs(is_numbers(T, C[:1], (0, 0, 0, 1, 0)), True)
        self.assertIs(is_numbers(T, C, (0, 0, 0, 1, 0)), False)
        self.assertIs(is_numbers(T, C[:1], (1, 0, 0, 1, 0)), False)
        self.assertIs(is_numbers(T, [], (1, 2, 2, 1, 1)), False)
        self.assertIs(is_numbers(T, [], (1, 2, 2, 1, 0)), True)
        self.assertIs(is_numbers(D, [], (1, 2, 2, 1)), False)

    def test_by_what_it_is_and_the_fact(self):
        chooser = random.Random(43)
        seen = {True: 0, False: 0}
        for web in some_webs(120, 6, 12):
            for most in (0, 2, 7):
                checks = some_checks(web, chooser, most)
                found = numbers(web, checks)
                self.assertIs(found is None, rank(web, checks) == full_rank(web))
                self.assertIs(is_numbers(web, checks, found), found is not None)
                seen[found is None] += 1
                if found is not None:
                    self.assertIs(type(found), tuple)
                    self.assertEqual([type(item) for item in found], [int] * len(web.arrows))
                    self.assertIs(plainly_numbers(web, checks, found), True)
        self.assertGreater(min(seen.values()), 50)

    def test_dense_webs_up_to_40_arrows(self):
        chooser = random.Random(44)
        for _ in range(12):
            places = chooser.randint(5, 9)
            arrows = [tuple(sorted(chooser.sample(range(places), 2))) for _ in range(chooser.randint(20, 40))]
            web = Web(places, tuple(arrows))
            whole = list(least_list(web))
            chooser.shuffle(whole)
            for many in (0, 1, len(whole) // 2, len(whole) - 1, len(whole)):
                checks = whole[:many]
                found = numbers(web, checks)
                self.assertEqual(rank(web, checks), plain_rank(web, checks))
                self.assertIs(found is None, rank(web, checks) == full_rank(web))
                if found is not None:
                    self.assertTrue(all(alike(found, check) for check in checks))
                    self.assertFalse(all(alike(found, check) for check in whole))
                    self.assertIs(is_numbers(web, checks, found), True)

    def test_rows_of_two_arrows_each_with_checks_that_mix_them(self):
        # Such checks compare sums of differences, so that more than 1 comes before what is left.
        chooser = random.Random(47)
        for steps in (3, 4, 5, 5, 5):
            web = double_row(steps)
            every = plain_checks(web)
            for _ in range(40):
                checks = chooser.sample(every, chooser.randint(1, steps))
                found = numbers(web, checks)
                self.assertEqual(rank(web, checks), plain_rank(web, checks))
                self.assertIs(found is None, rank(web, checks) == steps)
                if found is not None:
                    self.assertEqual([type(item) for item in found], [int] * 2 * steps)
                    self.assertTrue(all(alike(found, check) for check in checks))
                    self.assertIs(plainly_numbers(web, checks, found), True)

    def test_many_checks_that_mix_all_arrows(self):
        chooser = random.Random(48)
        web = double_row(20)
        for many in (10, 17, 19, 20, 30):
            checks = []
            for _ in range(many):
                one = tuple(2 * step + chooser.randint(0, 1) for step in range(20))
                other = tuple(arrow ^ 1 for arrow in one)
                checks.append((min(one, other), max(one, other)))
            found = numbers(web, checks)
            self.assertEqual(rank(web, checks), plain_rank(web, checks))
            self.assertIs(found is None, rank(web, checks) == 20)
            if found is not None:
                self.assertTrue(all(alike(found, check) for check in checks))
                self.assertIs(is_numbers(web, checks, found), True)
                self.assertTrue(any(found[2 * step] != found[2 * step + 1] for step in range(20)))

    def test_enough_checks_leave_none(self):
        for web in some_webs(60):
            self.assertIsNone(numbers(web, further(web, [])))
            self.assertIsNone(numbers(web, list(least_list(web))))
        # But sums can be settled by checks that are not enough.
        web = Web(3, ((0, 1), (0, 1), (1, 2)))
        self.assertIs(enough(web, [((0, 2), (1, 2))]), False)
        self.assertIsNone(numbers(web, [((0, 2), (1, 2))]))

    def test_without_checks_and_without_arrows(self):
        for web in (Web(1, ()), Web(60, ()), row_web(41)):
            for checks in ([], ()):
                self.assertIsNone(numbers(web, checks))
                self.assertIs(is_numbers(web, checks, (0,) * len(web.arrows)), False)
                self.assertIs(is_numbers(web, checks, tuple(range(len(web.arrows)))), False)


class IsNumbersTest(unittest.TestCase):
    def test_all_small_integers(self):
        chooser = random.Random(45)
        for web in (D, H, S, Web(3, ((0, 1), (1, 2), (0, 2), (1, 2))), Web(4, ((1, 2), (1, 2), (0, 3), (0, 3)))):
            for checks in ([], some_checks(web, chooser, 1), some_checks(web, chooser, 3), plain_checks(web)):
                for thing in itertools.product((-2, 0, 1, 3), repeat=len(web.arrows)):
                    self.assertIs(is_numbers(web, checks, thing), plainly_numbers(web, checks, thing))

    def test_integers_by_chance(self):
        chooser = random.Random(46)
        seen = {True: 0, False: 0}
        for web in some_webs(120):
            for most in (0, 1, 2):
                checks = some_checks(web, chooser, most)
                for high in (1, 2, GREAT):
                    # Heights of the places give each way the same sum as all others with its ends.
                    heights = [chooser.randint(-high, high) for _ in range(web.places)]
                    level = tuple(heights[end] - heights[begin] for begin, end in web.arrows)
                    self.assertIs(is_numbers(web, checks, level), False)
                    for thing in (tuple(chooser.randint(-high, high) for _ in web.arrows),
                                  tuple(item + chooser.choice((0, 0, 0, 1)) for item in level)):
                        expected = plainly_numbers(web, checks, thing)
                        self.assertIs(is_numbers(web, checks, thing), expected)
                        seen[expected] += 1
        self.assertGreater(min(seen.values()), 100)

    def test_more_than_40_arrows(self):
        web = double_row(59)
        checks = further(web, [])
        for at in (0, 1, 60, 117):
            thing = tuple(int(arrow == at) for arrow in range(118))
            self.assertIs(is_numbers(web, checks[:at // 2] + checks[at // 2 + 1:], thing), True)
            self.assertIs(is_numbers(web, checks, thing), False)
        self.assertIs(is_numbers(web, [], (1,) * 118), False)
        web = beside(beside(Web(60, ()), Web(60, ())), Web(2, ((0, 1),) * 400))
        self.assertIs(is_numbers(web, [], (0,) * 399 + (-GREAT,)), True)
        self.assertIs(is_numbers(web, [], (-GREAT,) * 400), False)

    def test_no_numbers(self):
        right = (0, 0, 0, 1, 0)
        for thing in (list(right), right[1:], (*right, 0), (0, 0, 0, True, 0), (False, 0, 0, 1, 0),
                      right[:3] + ("1", 0), (None,) * 5, (right,), *WRONG_TUPLES):
            self.assertIs(is_numbers(T, C[:1], thing), False)
        for item in WRONG_NUMBERS:
            whole = isinstance(item, int) and not isinstance(item, bool)
            self.assertIs(is_numbers(T, C[:1], (0, 0, 0, item, 0)), whole)
            self.assertIs(is_numbers(H, [((0,), (1,))], (1, 1, item)), whole)
        self.assertIs(is_numbers(T, C[:1], right), True)


class ErrorsTest(unittest.TestCase):
    def test_no_checks_ahead_of_too_many(self):
        many = Web(2, ((0, 1),) * 41)
        for checks in NO_CHECKS:
            for call in (rank, numbers, lambda web, checks: is_numbers(web, checks, (0, 0, 0, 1, 0)),
                         lambda web, checks: is_numbers(web, checks, None)):
                for web in (T, many):
                    with self.assertRaises(NoChecks):
                        call(web, checks)
        for call in (rank, numbers):
            with self.assertRaises(NoChecks):
                call(many, [((0,), (41,))])

    def test_nothing_is_changed(self):
        checks = [C[0], C[1]]
        rank(T, checks)
        numbers(T, checks[:1])
        is_numbers(T, checks, (0,) * 5)
        self.assertEqual(checks, C)


if __name__ == "__main__":
    unittest.main()
