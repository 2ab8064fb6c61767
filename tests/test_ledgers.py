"""10.1 and what 0.2 to 0.5 say of enoughchecks/ledgers.py."""

import random
import unittest

from enoughchecks.chains import follows
from enoughchecks.changes import beside, with_arrow, without_arrow
from enoughchecks.enough import lacking
from enoughchecks.errors import CheckError, NoArrow, NoCheck, NoPair, NoPlace, NothingDone, NoWay, TooMany
from enoughchecks.ledgers import Ledger
from enoughchecks.suspects import suspects
from enoughchecks.webs import Web
from tests.support import C, D, H, NO_NUMBERS_NO_TUPLES, S, T, WRONG_NUMBERS, WRONG_TUPLES, WRONG_WAYS, many_ways_web
from tests.support import plain_checks, plain_groups, plain_ways, plainly_enough, some_webs, wide_web

A, B = ((0,), (1,)), ((0, 2), (1, 2))


def told(ledger):
    """All that a ledger tells of itself."""
    web = ledger.web()
    return (web.places, web.arrows, ledger.checks(), ledger.sound(), ledger.lacking(), ledger.due(), ledger.blamed(),
            ledger.deeds())


def plain_lacking(web, checks):
    return sum(len(plain_groups(web, checks, u, v)) - 1 for u in range(web.places) for v in range(web.places)
               if plain_ways(web, u, v))


class Model:
    """What a ledger should hold, kept plainly: a web, a list of checks with their states, and all that was ahead."""

    def __init__(self, web):
        self.arrows = list(web.arrows)
        self.places = web.places
        self.rows = []
        self.past = []

    def web(self):
        return Web(self.places, tuple(self.arrows))

    def keep(self):
        self.past.append((list(self.arrows), [list(row) for row in self.rows]))

    def arrow(self, u, v):
        self.keep()
        self.arrows.append((u, v))
        return len(self.arrows) - 1

    def strike(self, arrow):
        self.keep()
        del self.arrows[arrow]
        rows = []
        for (one, other), state in self.rows:
            if arrow not in one + other:
                shifted = tuple(tuple(k - (k > arrow) for k in way) for way in (one, other))
                rows.append([shifted, state])
        self.rows = rows

    def renewed(self, arrow):
        self.keep()
        found = []
        for number, row in enumerate(self.rows):
            if arrow in row[0][0] + row[0][1] and row[1] != "void":
                row[1] = "void"
                found.append(number)
        return tuple(found)

    def done(self, check, state):
        self.keep()
        for row in self.rows:
            if row[0] == check:
                row[1] = state
                return
        self.rows.append([check, state])

    def passed(self, check):
        self.done(check, "passed")

    def failed(self, check):
        self.done(check, "failed")

    def back(self):
        self.arrows, self.rows = self.past.pop()

    def of_states(self, *states):
        return [check for check, state in self.rows if state in states]


def chosen_deed(model, chooser):
    """A word and arguments for a deed that can be done, or None."""
    word = chooser.choice(("arrow", "strike", "renewed", "renewed", "passed", "passed", "passed", "failed", "back"))
    web = model.web()
    if word == "back":
        return (word,) if model.past else None
    if word == "arrow":
        if len(model.arrows) > 9 or model.places == 1:
            return None
        u, v = chooser.sample(range(model.places), 2)
        return None if plain_ways(web, v, u) else (word, u, v)
    if word in ("strike", "renewed"):
        return (word, chooser.randrange(len(model.arrows))) if model.arrows else None
    checks = plain_checks(web)
    return (word, chooser.choice(checks)) if checks else None


class LedgerAgainstModel(unittest.TestCase):
    def same(self, ledger, model):
        web = model.web()
        self.assertEqual(ledger.web(), web)
        self.assertEqual(ledger.checks(), tuple((check, state) for check, state in model.rows))
        sound = model.of_states("passed")
        self.assertEqual(ledger.sound(), tuple(sound))
        self.assertEqual(ledger.lacking(), lacking(web, sound))
        self.assertEqual(ledger.deeds(), len(model.past))
        done = model.of_states("passed", "failed")
        failed = tuple(done.index(check) for check in model.of_states("failed"))
        self.assertEqual(ledger.blamed(), suspects(web, done, failed))
        self.due(ledger, web, sound, model.of_states("void"))

    def due(self, ledger, web, sound, void):
        found = ledger.due()
        self.assertIs(type(found), list)
        self.assertEqual(len(set(found)), len(found))
        self.assertLessEqual(set(found), set(plain_checks(web)) - set(sound))
        self.assertEqual(len(found), lacking(web, sound))
        self.assertIs(plainly_enough(web, [*sound, *found]), True)
        # Void ones that do not help one another are as many as there are groups fewer with all of them.
        most = plain_lacking(web, sound) - plain_lacking(web, [*sound, *void])
        self.assertEqual(len([check for check in found if check in void]), most)

    def test_deeds_by_chance(self):
        chooser = random.Random(101)
        words = {}
        for web in some_webs(40, 5, 7):
            ledger, model = Ledger(web), Model(web)
            for _ in range(30):
                deed = chosen_deed(model, chooser)
                if deed is None:
                    continue
                word, *rest = deed
                words[word] = words.get(word, 0) + 1
                answer = getattr(ledger, word)(*rest)
                self.assertEqual(answer, getattr(model, word)(*rest))
                if word not in ("arrow", "renewed"):
                    self.assertIsNone(answer)
                self.same(ledger, model)
            while model.past:
                self.assertIsNone(ledger.back())
                model.back()
                self.same(ledger, model)
            self.assertEqual(told(ledger), told(Ledger(web)))
            with self.assertRaises(NothingDone):
                ledger.back()
        self.assertGreater(min(words.values()), 20)

    def test_copies_and_tries_among_deeds(self):
        chooser = random.Random(102)
        for web in some_webs(25, 5, 7):
            pairs = [(Ledger(web), Model(web))]
            for _ in range(25):
                ledger, model = chooser.choice(pairs)
                deed = chosen_deed(model, chooser)
                if deed is not None:
                    before = [told(other) for other, _ in pairs]
                    self.assertEqual(ledger.trying(lambda same: getattr(same, deed[0])(*deed[1:])),
                                     getattr(ledger.copy(), deed[0])(*deed[1:]))
                    self.assertEqual([told(other) for other, _ in pairs], before)
                    getattr(ledger, deed[0])(*deed[1:])
                    getattr(model, deed[0])(*deed[1:])
                if chooser.random() < 0.2:
                    twin = Model(web)
                    twin.arrows, twin.rows = list(model.arrows), [list(row) for row in model.rows]
                    twin.past = [(list(arrows), [list(row) for row in rows]) for arrows, rows in model.past]
                    pairs.append((ledger.copy(), twin))
                for other, other_model in pairs:
                    self.assertEqual(other.checks(), tuple((check, state) for check, state in other_model.rows))
                    self.assertEqual(other.web(), other_model.web())
                    self.assertEqual(other.deeds(), len(other_model.past))
            for ledger, model in pairs:
                while model.past:
                    ledger.back()
                    model.back()
                    self.same(ledger, model)


class DeedsTest(unittest.TestCase):
    def test_of_the_examples(self):
        ledger = Ledger(S)
        self.assertIsNone(ledger.passed(A))
        self.assertEqual(ledger.arrow(0, 2), 3)
        self.assertEqual(ledger.renewed(0), (0,))
        self.assertEqual(ledger.checks(), ((A, "void"),))
        self.assertEqual(len(ledger.due()), 2)
        self.assertIn(A, ledger.due())
        self.assertEqual(ledger.deeds(), 3)

    def test_with_nothing_done(self):
        for web in (S, T, Web(1, ()), wide_web()):
            ledger = Ledger(web)
            self.assertEqual(ledger.web(), web)
            self.assertEqual((ledger.checks(), ledger.sound(), ledger.deeds()), ((), (), 0))
            self.assertEqual(ledger.lacking(), lacking(web, []))
            self.assertEqual(len(ledger.due()), lacking(web, []))
            self.assertEqual(ledger.blamed(), tuple(range(len(web.arrows))))
            for _ in range(2):
                with self.assertRaises(NothingDone):
                    ledger.back()
            self.assertEqual(ledger.deeds(), 0)

    def test_arrow(self):
        ledger = Ledger(S)
        ledger.passed(B)
        for number, (u, v) in enumerate(((0, 2), (0, 1), (1, 2)), 3):
            web = ledger.web()
            self.assertEqual(ledger.arrow(u, v), number)
            self.assertEqual(ledger.web(), with_arrow(web, u, v))
            self.assertEqual(ledger.checks(), ((B, "passed"),))
        ledger = Ledger(wide_web())
        self.assertEqual(ledger.arrow(0, 59), 400)
        self.assertEqual(ledger.arrow(0, 59), 401)

    def test_strike(self):
        checks = (((0, 3), (1, 4)), ((1, 3), (2, 4)), ((3,), (4,)), ((0,), (2,)))
        web = Web(3, ((0, 1), (0, 1), (0, 1), (1, 2), (1, 2)))
        expected = {
            0: ((((2,), (3,)), "void"), (((0, 2), (1, 3)), "passed")),
            1: ((((2,), (3,)), "void"), (((0,), (1,)), "failed")),
            2: ((((0, 2), (1, 3)), "failed"), (((2,), (3,)), "void")),
            3: ((((0,), (2,)), "failed"),),
            4: ((((0,), (2,)), "failed"),),
        }
        for arrow, rest in expected.items():
            ledger = Ledger(web)
            ledger.failed(checks[0])
            ledger.passed(checks[2])
            ledger.renewed(3)
            ledger.failed(checks[0])
            ledger.passed(checks[1])
            ledger.failed(checks[3])
            states = ((checks[0], "failed"), (checks[2], "void"), (checks[1], "passed"), (checks[3], "failed"))
            self.assertEqual(ledger.checks(), states)
            self.assertIsNone(ledger.strike(arrow))
            self.assertEqual(ledger.web(), without_arrow(web, arrow))
            self.assertEqual(ledger.checks(), rest, arrow)
            ledger.back()
            self.assertEqual((ledger.web(), ledger.checks(), ledger.deeds()), (web, states, 6))

    def test_strike_keeps_the_order(self):
        ledger = Ledger(Web(2, ((0, 1),) * 5))
        for check in (((3,), (4,)), ((0,), (1,)), ((1,), (3,)), ((1,), (4,))):
            ledger.passed(check)
        ledger.strike(2)
        self.assertEqual(ledger.sound(), (((2,), (3,)), ((0,), (1,)), ((1,), (2,)), ((1,), (3,))))
        ledger.strike(0)
        self.assertEqual(ledger.sound(), (((1,), (2,)), ((0,), (1,)), ((0,), (2,))))

    def test_the_last_arrow_struck(self):
        ledger = Ledger(Web(2, ((0, 1), (0, 1))))
        ledger.failed(A)
        ledger.strike(1)
        self.assertEqual((ledger.checks(), ledger.web()), ((), Web(2, ((0, 1),))))
        ledger.strike(0)
        self.assertEqual(ledger.web(), Web(2, ()))
        with self.assertRaises(NoArrow):
            ledger.strike(0)
        self.assertEqual(ledger.deeds(), 3)
        for _ in range(3):
            ledger.back()
        self.assertEqual((ledger.checks(), ledger.web()), ((), Web(2, ((0, 1), (0, 1)))))

    def test_renewed(self):
        ledger = Ledger(T)
        ledger.passed(C[0])
        ledger.failed(((0, 2), (1, 3)))
        ledger.passed(C[1])
        self.assertEqual(ledger.renewed(0), (0, 1))
        self.assertEqual([state for _, state in ledger.checks()], ["void", "void", "passed"])
        self.assertEqual(ledger.renewed(0), ())
        self.assertEqual(ledger.deeds(), 5)
        self.assertEqual(ledger.renewed(4), (2,))
        self.assertEqual([state for _, state in ledger.checks()], ["void"] * 3)
        ledger.back()
        self.assertEqual([state for _, state in ledger.checks()], ["void", "void", "passed"])
        ledger.failed(C[0])
        self.assertEqual(ledger.renewed(4), (0, 2))
        self.assertEqual(ledger.checks(), ((C[0], "void"), (((0, 2), (1, 3)), "void"), (C[1], "void")))
        # An arrow that no check has, and one that both ways of a check have.
        ledger = Ledger(S)
        self.assertEqual(ledger.renewed(2), ())
        ledger.passed(A)
        ledger.passed(B)
        self.assertEqual(ledger.renewed(2), (1,))
        self.assertEqual(ledger.checks(), ((A, "passed"), (B, "void")))

    def test_passed_and_failed(self):
        ledger = Ledger(T)
        for check, state in ((C[0], "failed"), (C[1], "passed"), (C[0], "passed"), (((0, 2), (1, 3)), "failed"),
                             (C[1], "failed"), (C[1], "failed"), (C[0], "failed"), (((0, 2), (1, 3)), "passed")):
            before = dict(ledger.checks())
            self.assertIsNone(getattr(ledger, state)(check))
            self.assertEqual(dict(ledger.checks()), {**before, check: state})
            self.assertEqual([other for other, _ in ledger.checks()], list({**before, check: state}))
        self.assertEqual(ledger.sound(), (((0, 2), (1, 3)),))
        self.assertEqual(ledger.deeds(), 8)
        ledger.renewed(0)
        ledger.passed(C[0])
        self.assertEqual(ledger.checks(), ((C[0], "passed"), (C[1], "failed"), (((0, 2), (1, 3)), "void")))

    def test_back_takes_back_in_full(self):
        ledger = Ledger(T)
        steps = [told(ledger)]
        for word, *rest in (("passed", C[0]), ("failed", C[1]), ("arrow", 0, 3), ("renewed", 4), ("passed", C[0]),
                            ("strike", 0), ("arrow", 0, 1), ("renewed", 0), ("failed", ((0, 2), (4,))), ("strike", 4)):
            getattr(ledger, word)(*rest)
            steps.append(told(ledger))
        for expected in reversed(steps):
            self.assertEqual(told(ledger), expected)
            if expected[-1] > 0:
                self.assertIsNone(ledger.back())
        with self.assertRaises(NothingDone):
            ledger.back()
        self.assertEqual(told(ledger), steps[0])
        ledger.passed(C[1])
        self.assertEqual((ledger.deeds(), ledger.sound()), (1, (C[1],)))

    def test_many_deeds(self):
        ledger = Ledger(Web(3, ((0, 1), (0, 1), (1, 2))))
        for _ in range(700):
            ledger.passed(A)
            ledger.renewed(0)
            ledger.arrow(0, 1)
        self.assertEqual(ledger.deeds(), 2100)
        twin = ledger.copy()
        for _ in range(2100):
            ledger.back()
        self.assertEqual(told(ledger), told(Ledger(S)))
        self.assertEqual(len(twin.web().arrows), 703)


class AnswersTest(unittest.TestCase):
    def test_sound_known_and_lacking(self):
        ledger = Ledger(T)
        self.assertEqual(ledger.lacking(), 2)
        self.assertIs(ledger.known((0, 4), (1,)), False)
        self.assertIs(ledger.known((1,), (1,)), True)
        ledger.passed(C[0])
        self.assertEqual((ledger.lacking(), ledger.sound()), (1, (C[0],)))
        self.assertIs(ledger.known((1,), (0, 4)), True)
        self.assertIs(ledger.known((0, 2), (1, 3)), False)
        ledger.passed(C[1])
        self.assertEqual((ledger.lacking(), ledger.due()), (0, []))
        self.assertIs(ledger.known((0, 2), (1, 3)), True)
        ledger.failed(C[0])
        self.assertIs(ledger.known((0, 4), (1,)), False)
        self.assertEqual(ledger.lacking(), 1)
        ledger.renewed(2)
        self.assertEqual((ledger.lacking(), ledger.sound()), (2, ()))
        self.assertIs(ledger.known((2,), (4, 3)), False)

    def test_due_takes_void_ones_where_it_can(self):
        ledger = Ledger(H)
        pair, other, third = ((0,), (2,)), ((1,), (2,)), ((0,), (1,))
        for check in (pair, other, third):
            ledger.passed(check)
        ledger.renewed(0)
        self.assertEqual(ledger.sound(), (other,))
        self.assertEqual(len(ledger.due()), 1)
        self.assertIn(ledger.due()[0], (pair, third))
        ledger.renewed(1)
        self.assertEqual(len(ledger.due()), 2)
        self.assertLessEqual(set(ledger.due()), {pair, other, third})
        # A void one that never helps is left out; failed ones are not sound.
        ledger = Ledger(S)
        ledger.passed(B)
        ledger.renewed(0)
        self.assertEqual(ledger.due(), [A])
        ledger.failed(A)
        self.assertEqual(ledger.due(), [A])

    def test_each_due_list_is_new(self):
        ledger = Ledger(T)
        ledger.passed(C[0])
        ledger.renewed(0)
        before = told(ledger)
        ledger.due().clear()
        ledger.due().append(None)
        self.assertEqual(told(ledger), before)

    def test_blamed(self):
        ledger = Ledger(T)
        self.assertEqual(ledger.blamed(), (0, 1, 2, 3, 4))
        ledger.failed(C[0])
        self.assertEqual(ledger.blamed(), (0, 1, 4))
        ledger.passed(C[1])
        self.assertEqual(ledger.blamed(), (0, 1, 4))
        ledger.failed(C[1])
        self.assertEqual(ledger.blamed(), (4,))
        # What is void blames nothing and bars nothing.
        ledger.renewed(0)
        self.assertEqual(ledger.blamed(), (2, 3, 4))
        ledger.passed(C[0])
        ledger.passed(((0, 2), (1, 3)))
        self.assertEqual(ledger.blamed(), suspects(T, [*C, ((0, 2), (1, 3))], (1,)))
        ledger.renewed(3)
        self.assertEqual(ledger.blamed(), (0, 1, 2, 3, 4))

    def test_known_against_follows(self):
        web = Web(3, ((0, 1),) * 2 + ((1, 2),) * 3)
        ledger = Ledger(web)
        every = plain_checks(web)
        for check in every[::2]:
            ledger.passed(check)
            for one, other in every:
                self.assertIs(ledger.known(one, other), follows(web, ledger.sound(), one, other))


class CopyAndTryTest(unittest.TestCase):
    def test_a_copy_goes_on_apart_and_can_be_taken_back(self):
        ledger = Ledger(S)
        ledger.passed(A)
        ledger.arrow(0, 2)
        twin = ledger.copy()
        self.assertIs(type(twin), Ledger)
        self.assertEqual(told(twin), told(ledger))
        before = told(ledger)
        twin.back()
        twin.failed(B)
        twin.strike(0)
        self.assertEqual(told(ledger), before)
        before = told(twin)
        ledger.back()
        ledger.back()
        ledger.passed(B)
        self.assertEqual(told(twin), before)
        for _ in range(3):
            twin.back()
        self.assertEqual(told(twin), told(Ledger(S)))
        with self.assertRaises(NothingDone):
            twin.back()

    def test_trying_puts_everything_back(self):
        ledger = Ledger(S)
        ledger.passed(A)
        ledger.arrow(0, 2)
        before = told(ledger)
        seen = []

        def action(same):
            seen.append(same)
            same.renewed(0)
            same.strike(3)
            same.failed(B)
            return same.checks(), same.deeds()

        self.assertEqual(ledger.trying(action), (((A, "void"), (B, "failed")), 5))
        self.assertEqual(len(seen), 1)
        self.assertIs(seen[0], ledger)
        self.assertEqual(told(ledger), before)

    def test_an_action_that_takes_back_more_than_it_did(self):
        ledger = Ledger(S)
        ledger.passed(A)
        ledger.arrow(0, 2)
        before = told(ledger)

        def action(same):
            same.failed(B)
            for _ in range(3):
                same.back()
            same.strike(2)
            return same.deeds(), same.checks()

        self.assertEqual(ledger.trying(action), (1, ()))
        self.assertEqual(told(ledger), before)
        ledger.back()
        ledger.back()
        self.assertEqual(told(ledger), told(Ledger(S)))

    def test_an_action_that_raises_an_error(self):
        ledger = Ledger(S)
        ledger.passed(A)
        before = told(ledger)
        for error in (KeyError("x"), ValueError(), RuntimeError("y"), KeyboardInterrupt(), NoArrow(), StopIteration()):
            def action(same):
                same.strike(0)
                same.arrow(0, 2)
                raise error

            with self.assertRaises(type(error)) as caught:
                ledger.trying(action)
            self.assertIs(caught.exception, error)
            self.assertEqual(told(ledger), before)
        with self.assertRaises(NothingDone):
            ledger.trying(lambda same: [same.back() for _ in range(2)])
        self.assertEqual(told(ledger), before)

    def test_trying_within_trying(self):
        ledger = Ledger(S)
        ledger.passed(A)
        before = told(ledger)

        def inner(same):
            same.back()
            same.strike(1)
            return same.deeds()

        def outer(same):
            same.renewed(0)
            here = told(same)
            found = same.trying(inner)
            self.assertEqual(told(same), here)
            with self.assertRaises(ZeroDivisionError):
                same.trying(lambda other: (other.strike(0), 1 // 0))
            self.assertEqual(told(same), here)
            same.strike(2)
            return found, same.deeds()

        self.assertEqual(ledger.trying(outer), (2, 3))
        self.assertEqual(told(ledger), before)

    def test_what_an_action_returns_is_returned(self):
        ledger = Ledger(S)
        for thing in (None, 0, "x", [1], ledger):
            self.assertIs(ledger.trying(lambda same: thing), thing)
        twin = ledger.trying(lambda same: (same.passed(A), same.copy())[1])
        self.assertEqual((twin.deeds(), ledger.deeds()), (1, 0))


class ErrorsTest(unittest.TestCase):
    def setUp(self):
        self.ledger = Ledger(T)
        self.ledger.passed(C[0])
        self.ledger.failed(C[1])
        self.before = told(self.ledger)

    def raises(self, error, call):
        with self.assertRaises(error) as caught:
            call()
        self.assertIs(type(caught.exception), error)
        self.assertEqual(told(self.ledger), self.before)

    def test_arrow(self):
        for thing in (*WRONG_NUMBERS, 4, -1):
            self.raises(NoPlace, lambda: self.ledger.arrow(thing, 3))
            self.raises(NoPlace, lambda: self.ledger.arrow(0, thing))
            self.raises(NoPlace, lambda: self.ledger.arrow(thing, thing))
        for u, v in ((3, 0), (1, 0), (2, 1), (0, 0), (3, 3)):
            self.raises(NoArrow, lambda: self.ledger.arrow(u, v))

    def test_strike_and_renewed(self):
        for thing in (*WRONG_NUMBERS, 5, -1):
            self.raises(NoArrow, lambda: self.ledger.strike(thing))
            self.raises(NoArrow, lambda: self.ledger.renewed(thing))

    def test_passed_and_failed(self):
        for call in (self.ledger.passed, self.ledger.failed):
            for thing in (*WRONG_TUPLES, list(C[0]), C[0][::-1], ((1,), (1,)), ((0,), (1,)), (C[0],), (*C[0], (1,)),
                          ([0, 4], (1,)), ((0, 4), [1]), ((False, 4), (1,)), ((0, 5), (1,)), 5):
                self.raises(NoCheck, lambda: call(thing))

    def test_known(self):
        for thing in WRONG_WAYS:
            self.raises(NoWay, lambda: self.ledger.known(thing, thing))
            self.raises(NoWay, lambda: self.ledger.known((0,), thing))
            self.raises(NoWay, lambda: self.ledger.known(thing, (0,)))
        self.raises(NoPair, lambda: self.ledger.known((0,), (1,)))
        for many, error in ((1500, None), (1501, TooMany)):
            ledger = Ledger(many_ways_web(many))
            if error is None:
                self.assertIs(ledger.known((0, 30), (1, 30)), False)
            else:
                with self.assertRaises(TooMany) as caught:
                    ledger.known((0, 30), (1, 30))
                self.assertEqual(caught.exception.most, 1500)
                with self.assertRaises(NoPair):
                    ledger.known((0, 30), (1,))

    def test_a_ledger_is_equal_to_nothing_of_another_kind(self):
        for thing in (S, None, (), 0, "x", {}, *[item for item in NO_NUMBERS_NO_TUPLES if isinstance(item, Web)]):
            self.assertFalse(Ledger(S) == thing)
            self.assertTrue(Ledger(S) != thing)

    def test_webs_beyond_what_can_be_constructed(self):
        ledger = Ledger(beside(beside(Web(60, ()), Web(60, ())), D))
        self.assertEqual(ledger.arrow(5, 122), 4)
        self.assertEqual(ledger.lacking(), 1)
        ledger.passed(((0, 2), (1, 3)))
        self.assertEqual(ledger.lacking(), 0)
        for call in (lambda: ledger.arrow(124, 0), lambda: ledger.strike(5)):
            with self.assertRaises(CheckError):
                call()


if __name__ == "__main__":
    unittest.main()
