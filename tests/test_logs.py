"""10.2 and what 0.2 to 0.5 say of enoughchecks/logs.py."""

import random
import unittest

from enoughchecks.errors import BadText
from enoughchecks.ledgers import Ledger
from enoughchecks.logs import log, restored
from enoughchecks.webs import Web
from tests.support import C, H, S, T, some_webs, wide_web
from tests.test_ledgers import Model, chosen_deed, told
from tests.test_texts import NO_NUMBERS, NO_STRINGS

A, B = ((0,), (1,)), ((0, 2), (1, 2))
STORY = "passed 0 = 1\narrow 0 2\nrenewed 0\nfailed 0 2 = 3\npassed 0 2 = 1 2\nstrike 1\narrow 1 2\npassed 0 1 = 0 3\n"


def ledger_of(web, deeds):
    """A ledger with which deeds, tuples of a word and arguments, were done one behind another."""
    ledger = Ledger(web)
    for word, *rest in deeds:
        getattr(ledger, word)(*rest)
    return ledger


def ledgers_by_chance(seed, many=25, most=25):
    """Ledgers with deeds by chance, some of them taken back."""
    chooser = random.Random(seed)
    for web in some_webs(many, 5, 7):
        ledger, model = Ledger(web), Model(web)
        for _ in range(most):
            deed = chosen_deed(model, chooser)
            if deed is not None:
                getattr(ledger, deed[0])(*deed[1:])
                getattr(model, deed[0])(*deed[1:])
        yield web, ledger, chooser


class LogTest(unittest.TestCase):
    def test_of_the_examples(self):
        ledger = ledger_of(S, [("passed", A), ("arrow", 0, 2), ("renewed", 0)])
        self.assertEqual(log(ledger), "passed 0 = 1\narrow 0 2\nrenewed 0\n")

    def test_each_form(self):
        web = Web(12, ((0, 1), (0, 1), (1, 11), (10, 11)))
        for deed, line in ((("arrow", 10, 11), "arrow 10 11\n"), (("arrow", 0, 2), "arrow 0 2\n"),
                           (("strike", 3), "strike 3\n"), (("renewed", 0), "renewed 0\n"),
                           (("passed", B), "passed 0 2 = 1 2\n"), (("failed", A), "failed 0 = 1\n"),
                           (("failed", B), "failed 0 2 = 1 2\n"), (("passed", A), "passed 0 = 1\n")):
            self.assertEqual(log(ledger_of(web, [deed])), line)
            self.assertEqual(log(ledger_of(web, [deed, ("arrow", 5, 6)])), line + "arrow 5 6\n")
        self.assertEqual(log(ledger_of(wide_web(), [("renewed", 399)])), "renewed 399\n")

    def test_with_nothing_done_and_deeds_taken_back(self):
        ledger = Ledger(S)
        self.assertEqual(log(ledger), "")
        ledger.passed(A)
        ledger.strike(2)
        ledger.back()
        self.assertEqual(log(ledger), "passed 0 = 1\n")
        ledger.failed(A)
        self.assertEqual(log(ledger), "passed 0 = 1\nfailed 0 = 1\n")
        for _ in range(2):
            ledger.back()
        self.assertEqual(log(ledger), "")

    def test_what_deeds_were_called_when_they_were_done(self):
        # The check 1 = 2 is 0 = 1 behind the strike, and the log still has the numbers of its time.
        web = Web(2, ((0, 1),) * 3)
        ledger = ledger_of(web, [("passed", ((1,), (2,))), ("strike", 0), ("failed", ((0,), (1,)))])
        self.assertEqual(log(ledger), "passed 1 = 2\nstrike 0\nfailed 0 = 1\n")
        self.assertEqual(told(restored(web, log(ledger))[0]), told(ledger))

    def test_copies_and_tries(self):
        ledger = ledger_of(S, [("passed", A)])
        twin = ledger.copy()
        twin.renewed(1)
        self.assertEqual((log(ledger), log(twin)), ("passed 0 = 1\n", "passed 0 = 1\nrenewed 1\n"))
        self.assertEqual(ledger.trying(lambda same: (same.renewed(2), log(same))[1]), "passed 0 = 1\nrenewed 2\n")
        self.assertEqual(log(ledger), "passed 0 = 1\n")

    def test_a_deed_for_each_line(self):
        for _, ledger, _ in ledgers_by_chance(121):
            text = log(ledger)
            self.assertIs(type(text), str)
            self.assertEqual(text.count("\n"), ledger.deeds())
            self.assertEqual(log(ledger), text)
            twin = ledger.copy()
            while twin.deeds():
                twin.back()
                self.assertEqual(log(twin), "".join(f"{line}\n" for line in text.split("\n")[:twin.deeds()]))


class RestoredTest(unittest.TestCase):
    def test_there_and_back(self):
        for web, ledger, chooser in ledgers_by_chance(122, 40):
            found = restored(web, log(ledger))
            self.assertIs(type(found), tuple)
            twin, lines = found
            self.assertIs(type(twin), Ledger)
            self.assertEqual(lines, ledger.deeds())
            self.assertEqual(told(twin), told(ledger))
            self.assertEqual(log(twin), log(ledger))
            while ledger.deeds():
                ledger.back()
                twin.back()
                self.assertEqual(told(twin), told(ledger))

    def test_cut_off_anywhere(self):
        for at in range(len(STORY) + 1):
            ledger, lines = restored(S, STORY[:at])
            self.assertEqual(lines, STORY[:at].count("\n"))
            self.assertEqual(ledger.deeds(), lines)
            self.assertEqual(log(ledger), "".join(f"{line}\n" for line in STORY.split("\n")[:lines]))

    def test_what_is_done_again(self):
        ledger, lines = restored(S, STORY)
        self.assertEqual((lines, ledger.web()), (8, Web(3, ((0, 1), (1, 2), (0, 2), (1, 2)))))
        self.assertEqual(ledger.checks(), ((((0, 1), (2,)), "failed"), (((0, 1), (0, 3)), "passed")))
        expected = ledger_of(S, [("passed", A), ("arrow", 0, 2), ("renewed", 0), ("failed", ((0, 2), (3,))),
                                 ("passed", B), ("strike", 1), ("arrow", 1, 2), ("passed", ((0, 1), (0, 3)))])
        self.assertEqual(told(ledger), told(expected))

    def test_the_web_it_begins_with(self):
        for web in (S, T, Web(1, ())):
            ledger, lines = restored(web, "")
            self.assertEqual((told(ledger), lines), (told(Ledger(web)), 0))
        ledger, lines = restored(T, "passed 0 4 = 1\nfailed 2 = 4 3\n")
        self.assertEqual((ledger.checks(), lines), (((C[0], "passed"), (C[1], "failed")), 2))
        ledger, lines = restored(S, "passed 0 4 = 1\nfailed 2 = 4 3\n")
        self.assertEqual((ledger.checks(), lines), ((), 0))

    def ends(self, line, ahead="passed 0 = 1\nrenewed 0\n", web=S):
        """Assert that a line ends what is restored, whatever stands behind it."""
        for behind in ("", "\n", "\nrenewed 1\n", "\nfailed 0 = 1\npassed 0 = 1"):
            ledger, lines = restored(web, ahead + line + behind)
            self.assertEqual(lines, ahead.count("\n"), line)
            self.assertEqual(log(ledger), ahead, line)

    def test_lines_that_have_none_of_the_forms(self):
        for line in ("", " ", "x", "arrow", "arrow ", "arrow 0", "arrow 0 ", "arrow 0 1 2", "arrow  0 2", "arrow 0  2",
                     " arrow 0 2", "arrow 0 2 ", "arrow\t0 2", "arrow 0\t2", "Arrow 0 2", "ARROW 0 2", "arrow 0,2",
                     "arrow 0 = 2", "strike", "strike ", "strike 0 1", "strike  0", "strike 0 ", " strike 0",
                     "Strike 0", "strikes 0", "renewed", "renewed 0 1", "renewed 0 ", "renewed", "renew 0", "passed",
                     "passed ", "passed 0", "passed 0 1", "passed 0 =", "passed = 1", "passed =", "passed 0 = 1 ",
                     "passed  0 = 1", "passed 0  = 1", "passed 0 =  1", "passed 0=1", "passed 0 = 1 = 2",
                     "passed 0 == 1", "Passed 0 = 1", "failed", "failed 0 1", "failed = 1", "failed 0 =",
                     "failed 0 = 1 =", "failed 0,2 = 1,2", "fail 0 = 1", "back", "undo", "void 0 = 1", "web 3",
                     "0 = 1", "places 3", "passed 0 = 1\t"):
            self.ends(line)

    def test_numbers_as_in_texts(self):
        for word in NO_NUMBERS:
            for line in (f"arrow {word} 2", f"arrow 0 {word}", f"strike {word}", f"renewed {word}",
                         f"failed {word} = 1", f"passed 0 {word} = 1 2", f"passed 0 = {word}"):
                self.ends(line)

    def test_lines_that_tell_a_deed_that_raises_an_error(self):
        for line in ("arrow 0 3", "arrow 3 0", "arrow 2 0", "arrow 0 0", "arrow 999999999 0", "strike 3",
                     "strike 999999999", "renewed 3", "passed 1 = 0", "passed 0 = 0", "passed 0 = 2", "passed 0 = 3",
                     "failed 1 = 0", "failed 1 2 = 0 2", "failed 2 0 = 2 1", "failed 999999999 = 1"):
            self.ends(line)
        self.ends("arrow 0 0", "", Web(1, ()))
        self.ends("strike 0", "strike 0\nstrike 0\nstrike 0\n")
        # What an arrow ahead makes right is done.
        self.assertEqual(restored(S, "arrow 0 2\npassed 0 2 = 3\nstrike 3\nstrike 3\n")[1], 3)

    def test_line_feeds_alone(self):
        for text in ("\n", "\n\n", "\npassed 0 = 1\n"):
            self.assertEqual(restored(S, text)[1], 0)
        self.assertEqual(restored(S, "passed 0 = 1\n\npassed 0 = 1\n")[1], 1)

    def test_the_same_deed_again_and_again(self):
        for line, many in (("renewed 0", 900), ("passed 0 = 1", 700), ("arrow 0 1", 900)):
            ledger, lines = restored(H, f"{line}\n" * many)
            self.assertEqual((lines, ledger.deeds()), (many, many))
            self.assertEqual(log(ledger), f"{line}\n" * many)
            for _ in range(many):
                ledger.back()
            self.assertEqual(told(ledger), told(Ledger(H)))

    def test_no_string(self):
        for thing in NO_STRINGS:
            with self.assertRaises(BadText) as caught:
                restored(S, thing)
            self.assertEqual(caught.exception.line, 0)

    def test_ledgers_are_apart(self):
        one, _ = restored(S, STORY)
        other, _ = restored(S, STORY)
        one.back()
        self.assertEqual((one.deeds(), other.deeds()), (7, 8))


if __name__ == "__main__":
    unittest.main()
