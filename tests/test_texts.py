"""11.1 and what 0.2 to 0.5 say of enoughchecks/texts.py and enoughchecks/reading.py."""

import random
import unittest

from enoughchecks.changes import beside, cube, with_arrow
from enoughchecks.errors import BadText, BadWeb, NoChecks
from enoughchecks.reading import read_checks, read_web
from enoughchecks.texts import checks_text, web_text
from enoughchecks.webs import Web
from tests.support import C, D, H, NO_CHECKS, NO_NUMBERS_NO_TUPLES, ODD_TUPLES, S, T, double_row, plain_checks, row_web
from tests.support import some_checks, some_webs, wide_web

NO_STRINGS = [thing for thing in (*NO_NUMBERS_NO_TUPLES, *ODD_TUPLES, 0, 1, -1) if not isinstance(thing, str)]
# What is no number of a text, wherever one is due.
NO_NUMBERS = ["", "-1", "+1", "-0", "+0", "00", "01", "007", "000000000", "1000000000", "0123456789", "1234567890",
              "1.", "1.0", "1_0", "1e3", "0x1", "a", "one", "1a", "a1", "=", ",", "1,2", "(1)", "\t", "1\t", "\t1",
              "'1'", "|", "1|", "~", "None", "True", "!", "/", ":", "9:", "/9"]


class TextsTest(unittest.TestCase):
    def test_of_the_examples(self):
        self.assertEqual(web_text(S), "places 3\n0 1\n0 1\n1 2\n")
        self.assertEqual(checks_text(S, [((0, 2), (1, 2))]), "0 2 = 1 2\n")
        self.assertEqual(web_text(Web(1, ())), "places 1\n")
        self.assertEqual(web_text(Web(60, ((59, 10),))), "places 60\n59 10\n")
        self.assertEqual(checks_text(T, C), "0 4 = 1\n2 = 4 3\n")
        self.assertEqual(checks_text(T, tuple(C[::-1])), "2 = 4 3\n0 4 = 1\n")
        for checks in ([], ()):
            self.assertEqual(checks_text(T, checks), "")

    def test_numbers_of_several_figures(self):
        web = wide_web()
        self.assertTrue(web_text(web).startswith("places 60\n0 1\n0 1\n"))
        self.assertTrue(web_text(web).endswith("\n45 46\n"))
        self.assertEqual(web_text(web).count("\n"), 401)
        self.assertEqual(checks_text(web, [((0,), (354,)), ((10, 16), (355, 17))]), "0 = 354\n10 16 = 355 17\n")

    def test_webs_beyond_what_can_be_constructed(self):
        self.assertEqual(web_text(cube(6)).split("\n", 1)[0], "places 64")
        with self.assertRaises(BadWeb) as caught:
            read_web(web_text(cube(6)))
        self.assertEqual((caught.exception.part, caught.exception.at), ("places", -1))
        web = with_arrow(wide_web(), 0, 59)
        self.assertTrue(web_text(web).endswith("\n0 59\n"))
        with self.assertRaises(BadWeb) as caught:
            read_web(web_text(web))
        self.assertEqual((caught.exception.part, caught.exception.at), ("arrows", -1))
        web = beside(wide_web(), wide_web())
        checks = [((0,), (1,)), ((400,), (754,))]
        self.assertEqual(read_checks(web, checks_text(web, checks)), checks)

    def test_no_checks(self):
        for checks in NO_CHECKS:
            with self.assertRaises(NoChecks):
                checks_text(T, checks)


class ThereAndBackTest(unittest.TestCase):
    def test_webs(self):
        for web in [*some_webs(150), wide_web(), double_row(59), row_web(60), cube(5), Web(60, ())]:
            text = web_text(web)
            self.assertEqual(read_web(text), web)
            self.assertIs(type(read_web(text)), Web)
            self.assertEqual(web_text(read_web(text)), text)

    def test_checks(self):
        chooser = random.Random(111)
        for web in some_webs(150):
            for checks in (some_checks(web, chooser, 6), plain_checks(web)[:50]):
                text = checks_text(web, checks)
                self.assertEqual(read_checks(web, text), list(checks))
                self.assertIs(type(read_checks(web, text)), list)
                self.assertEqual(checks_text(web, read_checks(web, text)), text)

    def test_each_list_is_new(self):
        text = checks_text(T, C)
        read_checks(T, text).clear()
        self.assertEqual(read_checks(T, text), C)


class ReadWebTest(unittest.TestCase):
    def bad(self, line, text):
        with self.assertRaises(BadText, msg=repr(text)) as caught:
            read_web(text)
        self.assertEqual(caught.exception.line, line, repr(text))

    def test_no_string(self):
        for thing in NO_STRINGS:
            self.bad(0, thing)

    def test_texts_cut_off(self):
        whole = "places 12\n0 11\n10 11\n"
        self.assertEqual(read_web(whole), Web(12, ((0, 11), (10, 11))))
        for at in range(len(whole)):
            if whole[:at].endswith("\n"):
                self.assertEqual(len(read_web(whole[:at]).arrows), whole[:at].count("\n") - 1)
            else:
                self.bad(whole[:at].count("\n") + 1, whole[:at])

    def test_no_line_and_line_feeds_alone(self):
        self.bad(1, "")
        for many in (1, 2, 5):
            self.bad(1, "\n" * many)
        self.bad(2, "places 3\n\n")
        self.bad(2, "places 3\n\n0 1\n")
        self.bad(3, "places 3\n0 1\n\n")
        self.bad(1, "\nplaces 3\n")

    def test_the_first_line(self):
        for text in ("places", "places ", " places 3", "places  3", "places 3 ", "places\t3", "Places 3", "PLACES 3",
                     "place 3", "places3", "3", "places 3 4", "places 3 =", "3 places", "0 1", "places =", "places: 3"):
            self.bad(1, text + "\n")
            self.bad(1, text + "\n0 1\n")
            self.bad(1, text)
        for word in NO_NUMBERS:
            self.bad(1, f"places {word}\n")

    def test_the_other_lines(self):
        for text in ("0", "0 ", " 0 1", "0  1", "0 1 ", "0\t1", "0 1 2", "0 = 1", "0-1", "0,1", "places 3", "0 1\t",
                     " "):
            self.bad(2, f"places 3\n{text}\n")
            self.bad(3, f"places 3\n0 1\n{text}\n1 2\n")
            self.bad(2, f"places 3\n{text}\n\n")
        for word in NO_NUMBERS:
            self.bad(2, f"places 3\n{word} 1\n")
            self.bad(3, f"places 3\n0 1\n0 {word}\n")

    def test_a_line_that_is_not_closed_is_told_behind_all_others(self):
        self.bad(1, "places 3")
        self.bad(2, "places 3\n0 1")
        self.bad(2, "places 3\n ")
        self.bad(3, "places 3\n0 1\nx")
        self.bad(2, "places 3\n0 x\n0 1")
        self.bad(1, "x\n0 1")

    def test_forms_ahead_of_the_web(self):
        self.bad(3, "places 0\n0 0\n0\n")
        self.bad(3, "places 99\n9 9\n0 1")
        self.bad(402, "places 3\n" + "0 1\n" * 400 + "x\n")

    def test_bad_webs(self):
        for text, part, at in (
                ("places 0\n", "places", -1), ("places 61\n", "places", -1), ("places 999999999\n0 1\n", "places", -1),
                ("places 3\n0 3\n", "arrows", 0), ("places 3\n0 1\n1 1\n", "arrows", 1),
                ("places 3\n0 999999999\n", "arrows", 0), ("places 3\n0 1\n1 2\n2 0\n", "ring", -1),
                ("places 3\n0 1\n1 0\n0 5\n", "arrows", 2), ("places 2\n" + "0 1\n" * 401, "arrows", -1)):
            with self.assertRaises(BadWeb, msg=text) as caught:
                read_web(text)
            self.assertEqual((caught.exception.part, caught.exception.at), (part, at))
        self.assertEqual(read_web("places 2\n" + "0 1\n" * 400), Web(2, ((0, 1),) * 400))
        self.assertEqual(read_web("places 60\n"), Web(60, ()))
        self.assertEqual(read_web("places 1\n"), Web(1, ()))


class ReadChecksTest(unittest.TestCase):
    def bad(self, web, line, text):
        with self.assertRaises(BadText, msg=repr(text)) as caught:
            read_checks(web, text)
        self.assertEqual(caught.exception.line, line, repr(text))

    def test_no_string(self):
        for thing in NO_STRINGS:
            self.bad(T, 0, thing)

    def test_the_empty_text(self):
        for web in (T, H, Web(1, ())):
            self.assertEqual(read_checks(web, ""), [])

    def test_texts_cut_off(self):
        whole = checks_text(T, C)
        for at in range(len(whole)):
            if at == 0 or whole[:at].endswith("\n"):
                self.assertEqual(read_checks(T, whole[:at]), C[:whole[:at].count("\n")])
            else:
                self.bad(T, whole[:at].count("\n") + 1, whole[:at])

    def test_forms(self):
        for text in ("", " ", "=", "0 4", "0 4 =", "= 1", "0 4 = ", " 0 4 = 1", "0 4  = 1", "0 4 =  1", "0 4 = 1 ",
                     "0  4 = 1", "0 4=1", "0 4 =1", "0 4= 1", "0 4 == 1", "0 4 = = 1", "0 4 = 1 = 1", "= 0 4 = 1",
                     "0 4 = 1 =", "0,4 = 1", "0 4\t= 1", "0 4 = 1\t", "\t0 4 = 1", "places 3", "0 4 - 1", " = "):
            self.bad(T, 1, text + "\n")
            self.bad(T, 2, f"2 = 4 3\n{text}\n")
            self.bad(T, 2, f"2 = 4 3\n{text}\n0 2 = 1 3\n{text}\n")
        for word in NO_NUMBERS:
            if word != "=":
                self.bad(T, 1, f"{word} 4 = 1\n")
                self.bad(T, 1, f"0 {word} = 1\n")
                self.bad(T, 2, f"2 = 4 3\n0 4 = {word}\n")

    def test_a_line_that_is_not_closed(self):
        self.bad(T, 1, "0 4 = 1")
        self.bad(T, 2, "0 4 = 1\n2 = 4 3")
        self.bad(T, 2, "0 4 = 1\n ")
        self.bad(T, 1, "0 4\n2 = 4 3")

    def test_lines_that_tell_no_check(self):
        for text in ("1 = 0 4", "1 = 1", "0 = 1", "0 2 = 1", "0 3 = 1 2", "0 4 = 5", "5 = 6", "999999999 = 1",
                     "0 0 = 1"):
            self.bad(T, 1, text + "\n")
            self.bad(T, 2, f"2 = 4 3\n{text}\n0 4 = 1\n")

    def test_a_check_that_stands_ahead(self):
        self.bad(T, 2, "0 4 = 1\n0 4 = 1\n")
        self.bad(T, 3, "0 4 = 1\n2 = 4 3\n0 4 = 1\n2 = 4 3\n")
        self.bad(T, 2, "0 4 = 1\n0 4 = 1\n1 = 1\n")
        self.bad(T, 2, "0 4 = 1\n1 = 1\n0 4 = 1\n")

    def test_forms_ahead_of_checks(self):
        self.bad(T, 3, "1 = 1\n0 4 = 1\n0 4 1\n")
        self.bad(T, 3, "0 4 = 1\n0 4 = 1\nx")
        self.bad(T, 2, "1 = 0 4\n0 4 = 1")
        for text in ("= 1", "0 4 =", "=", "0 04 = 1", "0 4 = -1", "0 4 = 1 x", "0 4 1", "= = 1"):
            self.bad(T, 1, text + "\nx\n")
            self.bad(T, 2, f"1 = 1\n{text}\nx")

    def test_of_another_web(self):
        text = checks_text(T, C)
        self.bad(D, 1, text)
        self.assertEqual(read_checks(Web(5, (*T.arrows, (3, 4))), text), C)


if __name__ == "__main__":
    unittest.main()
