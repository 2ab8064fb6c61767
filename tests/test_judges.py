"""10.3 and what 0.2 to 0.5 say of enoughchecks/judges.py."""

import random
import unittest

from enoughchecks.chains import follows
from enoughchecks.changes import beside, cube
from enoughchecks.checking import checks_many
from enoughchecks.enough import further
from enoughchecks.errors import NoAnswer, NoChecks, TooMany
from enoughchecks.judges import wrong_judge
from enoughchecks.webs import Web
from tests.support import C, D, H, NO_CHECKS, NO_NUMBERS_NO_TUPLES, ODD_TUPLES, S, T, double_row, home_of_ways
from tests.support import plain_checks, row_web, some_checks, some_webs


def web_of_checks(many):
    """A web with 2000 checks, or with some more of them, between places that lie apart."""
    arrows = ((0, 1),) * 63 + ((2, 3),) * 10 + ((4, 5),) * 2 + ((6, 7),) * 2
    for k in range(many - 2000):
        arrows += ((8 + 2 * k, 9 + 2 * k),) * 2
    return Web(60, arrows)


def plain_right(web, checks):
    """For each check of the web whether its ways follow, found by exchanging."""
    homes = home_of_ways(web, checks)
    return {(one, other): homes[one] == homes[other] for one, other in plain_checks(web)}


class Recorder:
    """A judge that gives what a dict says, and keeps what it was asked."""

    def __init__(self, answers):
        self.answers = answers
        self.asked = []

    def __call__(self, one, other):
        self.asked.append((one, other))
        return self.answers[(one, other)]


class WrongJudgeTest(unittest.TestCase):
    def test_right_judges(self):
        chooser = random.Random(131)
        for web in some_webs(100, 5, 8):
            checks = some_checks(web, chooser, 4)
            right = plain_right(web, checks)
            judge = Recorder(right)
            self.assertIsNone(wrong_judge(web, checks, judge))
            self.assertEqual(judge.asked, sorted(right))
            self.assertIsNone(wrong_judge(web, checks, lambda one, other: follows(web, checks, one, other)))

    def test_the_least_wrong_one_and_no_question_behind_it(self):
        chooser = random.Random(132)
        seen = 0
        for web in some_webs(120, 5, 8):
            checks = some_checks(web, chooser, 4)
            right = plain_right(web, checks)
            every = sorted(right)
            for many in (1, 2, len(every)):
                wrong = chooser.sample(every, min(many, len(every)))
                judge = Recorder({check: right[check] != (check in wrong) for check in every})
                found = wrong_judge(web, checks, judge)
                self.assertEqual(found, min(wrong, default=None))
                self.assertEqual(judge.asked, [check for check in every if not wrong or check <= min(wrong)])
                seen += len(wrong) > 0
        self.assertGreater(seen, 100)

    def test_judges_that_always_say_the_same(self):
        self.assertEqual(wrong_judge(T, [], lambda one, other: True), ((0, 2), (0, 4, 3)))
        self.assertIsNone(wrong_judge(T, [], lambda one, other: False))
        self.assertIsNone(wrong_judge(T, C, lambda one, other: True))
        self.assertEqual(wrong_judge(T, C, lambda one, other: False), ((0, 2), (0, 4, 3)))
        self.assertEqual(wrong_judge(T, C[:1], lambda one, other: True), ((0, 2), (0, 4, 3)))
        self.assertEqual(wrong_judge(T, tuple(C[:1]), lambda one, other: False), ((0, 4), (1,)))
        self.assertEqual(wrong_judge(S, [((0,), (1,))], lambda one, other: len(one) == 1), ((0, 2), (1, 2)))

    def test_checks_of_several_pairs_are_asked_in_one_order(self):
        web = Web(4, ((2, 3), (0, 1), (2, 3), (0, 1), (2, 3)))
        judge = Recorder({check: False for check in plain_checks(web)})
        self.assertIsNone(wrong_judge(web, [], judge))
        self.assertEqual(judge.asked, [((0,), (2,)), ((0,), (4,)), ((1,), (3,)), ((2,), (4,))])

    def test_webs_without_checks(self):
        def judge(one, other):
            raise AssertionError

        for web in (Web(1, ()), Web(60, ()), row_web(60)):
            for checks in ([], ()):
                self.assertIsNone(wrong_judge(web, checks, judge))

    def test_judges_that_give_no_flag(self):
        for thing in (0, 1, None, "", "True", [], [True], (False,), {}, 10 ** 59, *NO_NUMBERS_NO_TUPLES, *ODD_TUPLES):
            if isinstance(thing, bool):
                continue
            for at in range(5):
                every = plain_checks(T)
                right = plain_right(T, C[:1])
                judge = Recorder({**right, every[at]: thing})
                with self.assertRaises(NoAnswer) as caught:
                    wrong_judge(T, C[:1], judge)
                self.assertEqual(caught.exception.check, every[at])
                self.assertEqual(judge.asked, every[:at + 1])
                # A wrong one ahead of it is told, one behind it is not asked for.
                for other in range(5):
                    if other != at:
                        judge = Recorder({**judge.answers, every[other]: not right[every[other]]})
                        if other < at:
                            self.assertEqual(wrong_judge(T, C[:1], judge), every[other])
                        else:
                            with self.assertRaises(NoAnswer):
                                wrong_judge(T, C[:1], judge)
                        self.assertEqual(judge.asked, every[:min(at, other) + 1])
                        judge.answers[every[other]] = right[every[other]]

    def test_errors_of_the_judge_go_on(self):
        for error in (KeyError("x"), ValueError(), NoChecks(), NoAnswer(None), RuntimeError(), KeyboardInterrupt()):
            def judge(one, other):
                if one == (0, 4):
                    raise error
                return False

            with self.assertRaises(type(error)) as caught:
                wrong_judge(T, [], judge)
            self.assertIs(caught.exception, error)
            self.assertEqual(wrong_judge(T, [((0, 2), (1, 3))], judge), ((0, 2), (1, 3)))

    def test_2000_checks_and_one_more(self):
        web = web_of_checks(2000)
        self.assertEqual(checks_many(web), 2000)
        judge = Recorder({check: check[0] == (0,) for check in plain_checks(web)})
        checks = further(web, [])[:62]
        self.assertEqual(wrong_judge(web, checks, judge), ((1,), (2,)))
        judge = Recorder({check: check[1] < (63,) for check in plain_checks(web)})
        self.assertIsNone(wrong_judge(web, checks, judge))
        self.assertEqual(len(judge.asked), 2000)
        for many in (2001, 2002):
            web = web_of_checks(many)
            self.assertEqual(checks_many(web), many)
            judge = Recorder({})
            with self.assertRaises(TooMany) as caught:
                wrong_judge(web, checks, judge)
            self.assertEqual((caught.exception.most, judge.asked), (2000, []))
        for web in (double_row(59), cube(6)):
            with self.assertRaises(TooMany):
                wrong_judge(web, [], None)

    def test_webs_beyond_what_can_be_constructed(self):
        web = beside(beside(Web(60, ()), Web(60, ())), D)
        self.assertIsNone(wrong_judge(web, [], lambda one, other: False))
        self.assertEqual(wrong_judge(web, [((0, 2), (1, 3))], lambda one, other: False), ((0, 2), (1, 3)))


class ErrorsTest(unittest.TestCase):
    def test_no_checks_first(self):
        for checks in NO_CHECKS:
            for judge in (lambda one, other: False, None):
                with self.assertRaises(NoChecks):
                    wrong_judge(T, checks, judge)
        with self.assertRaises(NoChecks):
            wrong_judge(web_of_checks(2001), [((0,), (400,))], lambda one, other: None)

    def test_nothing_is_changed(self):
        checks = [C[0]]
        wrong_judge(T, checks, lambda one, other: True)
        wrong_judge(H, [], lambda one, other: False)
        self.assertEqual(checks, C[:1])


if __name__ == "__main__":
    unittest.main()
