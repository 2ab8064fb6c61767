"""12 and what 0.2 to 0.5 say of enoughchecks/desk.py."""

import random
import unittest

from enoughchecks.clusters import clusters, holes
from enoughchecks.desk import Desk
from enoughchecks.errors import BadText, BadWeb, CheckError, NoArrow, NoCheck, NoLine, NoName, NoPair, NoPlace
from enoughchecks.errors import NothingDone, NoWay, TooMany
from enoughchecks.leasts import least_number
from enoughchecks.ledgers import Ledger
from enoughchecks.texts import web_text
from enoughchecks.ways import ways_many
from enoughchecks.webs import Web
from tests.support import D, H, S, T, many_ways_web, plain_checks, some_webs, wide_web
from tests.test_ledgers import Model, chosen_deed
from tests.test_texts import NO_NUMBERS, NO_STRINGS

DEEDS = ("web", "arrow", "strike", "renewed", "passed", "failed", "drop")
QUESTIONS = ("show", "checks", "least", "lacking", "holes", "blamed")


def web_line(name, web):
    text = web_text(web).replace("\n", "|")
    return f"web {name} {text}"


def desk_of(*webs):
    """A desk with webs kept under the names a, b and so on."""
    desk = Desk()
    for name, web in zip("abcdef", webs):
        desk.tell(web_line(name, web))
    return desk


def told(desk):
    """All that a desk tells."""
    names = desk.tell("names")
    found = [names, desk.undoable()]
    for name in [] if names == "none" else names.split(" "):
        found.append([desk.tell(f"{word} {name}") for word in QUESTIONS])
    return found


def way_text(way):
    return ",".join(str(arrow) for arrow in way)


class SlowDesk:
    """What a desk should tell, with all ledgers copied ahead of each line that can be taken back."""

    def __init__(self):
        self.kept = {}
        self.past = []

    def change(self, action):
        before = {name: ledger.copy() for name, ledger in self.kept.items()}
        answer = action()
        self.past.append(before)
        return answer

    def undo(self):
        self.kept = self.past.pop()

    def expected(self):
        """What told tells of a desk that holds the same."""
        found = [" ".join(sorted(self.kept)) or "none", len(self.past)]
        for name in sorted(self.kept):
            ledger = self.kept[name]
            states = "".join(state[0] for _, state in ledger.checks())
            pairs = " ".join(f"{u}-{v}" for u, v in holes(ledger.web(), ledger.sound()))
            found.append([
                web_text(ledger.web()).replace("\n", "|"), states or "none", str(least_number(ledger.web())),
                str(ledger.lacking()), pairs or "none", way_text(ledger.blamed()) or "none"])
        return found


class DeskAgainstSlowDesk(unittest.TestCase):
    def change_by_chance(self, desk, slow, chooser, webs):
        """Do one line that can be taken back, with both desks."""
        name = chooser.choice(("a", "b", "abcdefgh"))
        if name not in slow.kept or chooser.random() < 0.08:
            web = chooser.choice(webs)
            self.assertEqual(desk.tell(web_line(name, web)), "ok")
            slow.change(lambda: slow.kept.update({name: Ledger(web)}))
            return
        if chooser.random() < 0.08:
            self.assertEqual(desk.tell(f"drop {name}"), "ok")
            slow.change(lambda: slow.kept.pop(name))
            return
        model = Model(slow.kept[name].web())
        deed = chosen_deed(model, chooser)
        if deed is None or deed[0] == "back":
            return
        word, *rest = deed
        if word in ("passed", "failed"):
            one, other = chooser.sample(rest[0], 2)
            line = f"{word} {name} {way_text(one)} {way_text(other)}"
        else:
            line = f"{word} {name} {' '.join(str(number) for number in rest)}"
        answer = desk.tell(line)
        expected = slow.change(lambda: getattr(slow.kept[name], word)(*rest))
        if word == "arrow":
            self.assertEqual(answer, str(expected))
        elif word == "renewed":
            self.assertEqual(answer, way_text(expected) or "none")
        else:
            self.assertEqual(answer, "ok")

    def test_lines_by_chance(self):
        chooser = random.Random(141)
        webs = some_webs(20, 5, 6)
        for _ in range(12):
            desk, slow = Desk(), SlowDesk()
            for _ in range(60):
                if slow.past and chooser.random() < 0.25:
                    self.assertEqual(desk.tell("undo"), "ok")
                    slow.undo()
                else:
                    self.change_by_chance(desk, slow, chooser, webs)
                self.assertEqual(told(desk), slow.expected())
            while slow.past:
                self.assertEqual(desk.tell("undo"), "ok")
                slow.undo()
                self.assertEqual(told(desk), slow.expected())
            self.assertEqual(told(desk), ["none", 0])
            with self.assertRaises(NothingDone):
                desk.tell("undo")

    def test_questions_by_chance(self):
        chooser = random.Random(142)
        for web in some_webs(40, 5, 8):
            desk, ledger = desk_of(web), Ledger(web)
            for check in plain_checks(web)[:6:2]:
                desk.tell(f"passed a {way_text(check[0])} {way_text(check[1])}")
                ledger.passed(check)
            for u in range(web.places):
                for v in range(web.places):
                    self.assertEqual(desk.tell(f"ways a {u} {v}"), str(ways_many(web, u, v)))
                    self.assertEqual(desk.tell(f"clusters a {u} {v}"), str(len(clusters(web, u, v))))
            for one, other in plain_checks(web)[:20]:
                one, other = chooser.sample((one, other), 2)
                expected = "yes" if ledger.known(one, other) else "no"
                self.assertEqual(desk.tell(f"same a {way_text(one)} {way_text(other)}"), expected)


class LinesTest(unittest.TestCase):
    def test_web(self):
        desk = Desk()
        self.assertEqual(desk.tell("web a places 3|0 1|0 1|1 2|"), "ok")
        self.assertEqual(desk.tell("show a"), "places 3|0 1|0 1|1 2|")
        self.assertEqual(desk.tell("web a places 1|"), "ok")
        self.assertEqual(desk.tell("show a"), "places 1|")
        self.assertEqual(desk.tell("web abcdefgh places 60|59 0|"), "ok")
        self.assertEqual(desk.tell("show abcdefgh"), "places 60|59 0|")
        self.assertEqual(desk.tell("names"), "a abcdefgh")
        self.assertEqual(desk.undoable(), 3)
        for name in ("web", "undo", "names", "none", "zzzzzzzz", "qwertyui"):
            self.assertEqual(desk.tell(f"web {name} places 2|0 1|"), "ok")
            self.assertEqual(desk.tell(f"show {name}"), "places 2|0 1|")
        self.assertEqual(desk.tell("names"), "a abcdefgh names none qwertyui undo web zzzzzzzz")

    def test_arrow_strike_and_renewed(self):
        desk = desk_of(S)
        self.assertEqual(desk.tell("arrow a 0 2"), "3")
        self.assertEqual(desk.tell("arrow a 0 2"), "4")
        self.assertEqual(desk.tell("show a"), "places 3|0 1|0 1|1 2|0 2|0 2|")
        self.assertEqual(desk.tell("renewed a 4"), "none")
        self.assertEqual(desk.tell("passed a 3 4"), "ok")
        self.assertEqual(desk.tell("failed a 0 1"), "ok")
        self.assertEqual(desk.tell("passed a 1,2 4"), "ok")
        self.assertEqual(desk.tell("checks a"), "pfp")
        self.assertEqual(desk.tell("renewed a 4"), "0,2")
        self.assertEqual(desk.tell("checks a"), "vfv")
        self.assertEqual(desk.tell("renewed a 4"), "none")
        self.assertEqual(desk.tell("strike a 2"), "ok")
        self.assertEqual(desk.tell("checks a"), "vf")
        self.assertEqual(desk.tell("show a"), "places 3|0 1|0 1|0 2|0 2|")
        self.assertEqual(desk.tell("strike a 3"), "ok")
        self.assertEqual(desk.tell("checks a"), "f")
        self.assertEqual(desk.tell("renewed a 1"), "0")
        self.assertEqual(desk.undoable(), 12)

    def test_passed_and_failed_in_any_order(self):
        desk = desk_of(T)
        self.assertEqual(desk.tell("passed a 0,4 1"), "ok")
        self.assertEqual(desk.tell("checks a"), "p")
        self.assertEqual(desk.tell("failed a 1 0,4"), "ok")
        self.assertEqual(desk.tell("checks a"), "f")
        self.assertEqual(desk.tell("failed a 4,3 2"), "ok")
        self.assertEqual(desk.tell("passed a 1,3 0,2"), "ok")
        self.assertEqual(desk.tell("checks a"), "ffp")
        self.assertEqual(desk.tell("passed a 2 4,3"), "ok")
        self.assertEqual(desk.tell("checks a"), "fpp")

    def test_questions(self):
        desk = desk_of(T, H, Web(1, ()))
        expected = {
            "show a": "places 4|0 1|0 2|1 3|2 3|1 2|", "checks a": "none", "ways a 0 3": "3", "ways a 3 0": "0",
            "ways a 1 1": "0", "clusters a 0 2": "2", "clusters a 0 3": "1", "clusters a 3 0": "0", "least a": "2",
            "lacking a": "2", "holes a": "0-2 1-3", "same a 0,2 1,3": "no", "same a 0 0": "yes",
            "blamed a": "0,1,2,3,4", "least b": "2", "holes b": "0-1", "clusters b 0 1": "3", "show c": "places 1|",
            "holes c": "none", "blamed c": "none", "least c": "0", "lacking c": "0", "names": "a b c",
        }
        for line, answer in expected.items():
            self.assertEqual(desk.tell(line), answer, line)
            self.assertEqual(desk.undoable(), 3)
        desk.tell("passed a 0,4 1")
        desk.tell("failed a 2 4,3")
        expected = {"checks a": "pf", "lacking a": "1", "least a": "2", "holes a": "1-3", "same a 0,4 1": "yes",
                    "same a 1,3 0,4,3": "yes", "same a 2 4,3": "no", "blamed a": "2,3,4", "checks b": "none"}
        for line, answer in expected.items():
            self.assertEqual(desk.tell(line), answer, line)
        desk.tell("passed a 2 4,3")
        self.assertEqual((desk.tell("holes a"), desk.tell("same a 0,2 1,3"), desk.tell("lacking a")),
                         ("none", "yes", "0"))
        desk.tell("failed b 0 1")
        desk.tell("failed b 0 2")
        desk.tell("failed b 1 2")
        self.assertEqual((desk.tell("blamed b"), desk.tell("checks b")), ("none", "fff"))

    def test_names_and_drop(self):
        desk = Desk()
        self.assertEqual(desk.tell("names"), "none")
        for name in ("b", "ab", "a", "zz", "b"):
            desk.tell(f"web {name} places 1|")
        self.assertEqual(desk.tell("names"), "a ab b zz")
        self.assertEqual(desk.tell("drop ab"), "ok")
        self.assertEqual(desk.tell("names"), "a b zz")
        with self.assertRaises(NoName):
            desk.tell("drop ab")
        for name in ("a", "zz", "b"):
            desk.tell(f"drop {name}")
        self.assertEqual(desk.tell("names"), "none")
        self.assertEqual(desk.undoable(), 9)

    def test_great_webs(self):
        desk = desk_of(wide_web())
        self.assertEqual(desk.tell("show a"), web_text(wide_web()).replace("\n", "|"))
        self.assertEqual(desk.tell("ways a 0 59"), str(ways_many(wide_web(), 0, 59)))
        self.assertEqual(desk.tell("least a"), "341")
        self.assertEqual(desk.tell("arrow a 0 59"), "400")
        self.assertEqual(desk.tell("arrow a 58 59"), "401")
        self.assertEqual(desk.tell("failed a 401 353"), "ok")
        self.assertEqual(desk.tell("blamed a"), "353,401")


class UndoTest(unittest.TestCase):
    def test_each_of_the_seven(self):
        for line in ("web a places 2|0 1|", "web b places 2|0 1|", "arrow a 0 2", "strike a 2", "renewed a 0",
                     "passed a 0 1", "failed a 1 0", "drop a"):
            desk = desk_of(S)
            desk.tell("passed a 1,2 0,2")
            before = told(desk)
            desk.tell(line)
            self.assertNotEqual(told(desk), before)
            self.assertEqual(desk.undoable(), 3)
            self.assertEqual(desk.tell("undo"), "ok")
            self.assertEqual(told(desk), before)
            self.assertEqual(desk.tell("undo"), "ok")
            self.assertEqual(told(desk), told(desk_of(S)))
            self.assertEqual(desk.tell("undo"), "ok")
            self.assertEqual(told(desk), ["none", 0])
            with self.assertRaises(NothingDone):
                desk.tell("undo")
            self.assertEqual(told(desk), ["none", 0])

    def test_a_web_replaced_and_one_dropped(self):
        desk = desk_of(S)
        steps = [told(desk)]
        for line in ("passed a 0 1", "web a places 4|0 1|0 2|1 3|2 3|1 2|", "passed a 0,4 1", "drop a",
                     "web a places 1|", "web b places 2|0 1|0 1|", "failed b 0 1", "web b places 2|0 1|", "drop b",
                     "drop a", "web a places 3|0 1|", "strike a 0"):
            desk.tell(line)
            steps.append(told(desk))
        for expected in reversed(steps):
            self.assertEqual(told(desk), expected)
            self.assertEqual(desk.tell("undo"), "ok")
        self.assertEqual(told(desk), ["none", 0])

    def test_undo_goes_over_all_names(self):
        desk = desk_of(S, H)
        desk.tell("passed a 0 1")
        desk.tell("passed b 0 1")
        desk.tell("passed a 0,2 1,2")
        for states in (("p", "p"), ("p", "none"), ("none", "none")):
            desk.tell("undo")
            self.assertEqual((desk.tell("checks a"), desk.tell("checks b")), states)

    def test_what_was_taken_back_is_not_taken_back_again(self):
        desk = desk_of(S)
        desk.tell("passed a 0 1")
        desk.tell("undo")
        desk.tell("failed a 0 1")
        self.assertEqual((desk.tell("checks a"), desk.undoable()), ("f", 2))
        desk.tell("undo")
        desk.tell("undo")
        self.assertEqual(told(desk), ["none", 0])

    def test_desks_are_apart(self):
        one, other = desk_of(S), desk_of(S)
        one.tell("drop a")
        self.assertEqual((one.tell("names"), other.tell("names")), ("none", "a"))

    def test_many_lines(self):
        desk = desk_of(S)
        for _ in range(1500):
            desk.tell("passed a 0 1")
        self.assertEqual(desk.undoable(), 1501)
        for _ in range(1500):
            desk.tell("undo")
        self.assertEqual(told(desk), told(desk_of(S)))


class ErrorsTest(unittest.TestCase):
    def setUp(self):
        self.desk = desk_of(T, S)
        self.desk.tell("passed a 0,4 1")
        self.desk.tell("failed a 2 4,3")
        self.before = told(self.desk)

    def raises(self, error, line):
        with self.assertRaises(CheckError, msg=repr(line)) as caught:
            self.desk.tell(line)
        self.assertIs(type(caught.exception), error, repr(line))
        self.assertEqual(told(self.desk), self.before)
        return caught.exception

    def test_no_string(self):
        for thing in NO_STRINGS:
            self.raises(NoLine, thing)

    def test_a_line_feed_anywhere(self):
        for line in ("names", "show a", "web a places 1|", "undo", "arrow a 0 3"):
            for at in range(len(line) + 1):
                self.raises(NoLine, line[:at] + "\n" + line[at:])
        self.raises(NoLine, "web a places 3\n0 1\n")

    def test_none_of_the_forms(self):
        for line in ("", " ", "x", "web", "web a", "web a ", "web  a places 1|", "web places", "arrow", "arrow a",
                     "arrow a 0", "arrow a 0 1 2", "arrow a 0,1", "arrow a 0 ", "arrow a  0 1", "arrow  a 0 1",
                     " arrow a 0 1", "arrow a 0 1 ", "arrow\ta 0 1", "arrow a 0\t1", "Arrow a 0 1", "strike",
                     "strike a", "strike a 0 1", "strike a ", "strike 0", "renewed a", "renewed a 0,1",
                     "renewed a 0 1", "passed a", "passed a 0,4", "passed a 0,4 1 2", "passed a 0,4 = 1",
                     "passed a 0 4 1", "passed a , 1", "passed a 0,,4 1", "passed a ,0 1", "passed a 0, 1",
                     "passed a 0,4  1", "failed a 0,4", "failed a", "failed a 0;4 1", "failed a 0,4 ", "drop", "drop ",
                     "drop a b", "drop a ", "undo ", " undo", "undo a", "Undo", "UNDO", "undo undo", "show", "show ",
                     "show a ", "show a b", "show  a", "checks", "checks a b", "ways a", "ways a 0", "ways a 0 1 2",
                     "ways a 0,1", "clusters a 0", "clusters a", "least", "least a 0", "lacking", "lacking a a",
                     "holes", "holes a 0 2", "same a 0,4", "same a", "same a 0 1 2", "blamed", "blamed a 0", "names a",
                     "names ", " names", "name", "back", "log a", "deeds a", "sound a", "due a", "known a 0 1",
                     "undoable", "tell", "|", "a", "show\ta", "\t", "number", "way", "lacking a\t"):
            self.raises(NoLine, line)

    def test_names_that_are_none(self):
        for name in ("", "A", "aB", "a1", "0", "a-b", "a_b", "abcdefghi", "zzzzzzzzz", "a,b", "a|", "`", "{", "a.", "=",
                     "\t", "a\t"):
            for form in ("web {} places 1|", "arrow {} 0 1", "strike {} 0", "renewed {} 0", "passed {} 0 1",
                         "failed {} 0 1", "drop {}", "show {}", "checks {}", "ways {} 0 1", "clusters {} 0 1",
                         "least {}", "lacking {}", "holes {}", "same {} 0 0", "blamed {}"):
                self.raises(NoLine, form.format(name))

    def test_numbers_that_are_none(self):
        for word in NO_NUMBERS:
            for form in ("arrow a {} 1", "arrow a 0 {}", "strike a {}", "renewed a {}", "ways a {} 1", "ways a 0 {}",
                         "clusters a {} 1", "clusters a 0 {}"):
                self.raises(NoLine, form.format(word))
            if word != "1,2":
                for form in ("passed a {} 1", "passed a 0,4 {}", "passed a 0,{} 1", "passed a {},4 1", "failed a {} 1",
                             "failed a 0,4 {}", "same a {} 1", "same a 0,4 {}", "same a 0,{},4 1"):
                    self.raises(NoLine, form.format(word))

    def test_no_line_ahead_of_no_name(self):
        for line in ("arrow zz 0", "strike zz x", "passed zz 0 01", "show zz zz", "ways zz 0 1234567890"):
            self.raises(NoLine, line)

    def test_web_errors(self):
        for text, line in (("x", 1), ("places 3", 1), (" places 3|", 1), ("places 3|0 1", 2), ("places 3|0 1||", 3),
                           ("|places 3|", 1), ("|", 1), ("||", 1), ("places 3||", 2), ("places 3||0 1|", 2),
                           ("places 3| 0 1|", 2), ("places 3|0 1 |", 2), ("places 3|0 1| ", 3), (" ", 1), ("  ", 1),
                           ("places  3|", 1), ("places 03|", 1), ("places 3|0 1\t|", 2), ("\t", 1),
                           ("places 1234567890|", 1)):
            for name in ("a", "new"):
                self.assertEqual(self.raises(BadText, f"web {name} {text}").line, line, text)
        self.assertEqual(self.raises(BadText, "web places 1|").line, 1)
        for text, part, at in (("places 0|", "places", -1), ("places 61|", "places", -1),
                               ("places 3|0 3|", "arrows", 0), ("places 3|0 1|1 0|", "ring", -1),
                               ("places 2|" + "0 1|" * 401, "arrows", -1)):
            for name in ("a", "new"):
                error = self.raises(BadWeb, f"web {name} {text}")
                self.assertEqual((error.part, error.at), (part, at))

    def test_no_name(self):
        for name in ("c", "aa", "zzzzzzzz", "none"):
            for form in ("arrow {} 0 99", "strike {} 99", "renewed {} 99", "passed {} 0 99", "failed {} 0 0", "drop {}",
                         "show {}", "checks {}", "ways {} 99 0", "clusters {} 0 99", "least {}", "lacking {}",
                         "holes {}", "same {} 99 0", "blamed {}"):
                self.assertEqual(self.raises(NoName, form.format(name)).name, name)

    def test_what_functions_and_methods_raise(self):
        for line, error in (
                ("arrow a 4 0", NoPlace), ("arrow a 0 4", NoPlace), ("arrow a 999999999 0", NoPlace),
                ("arrow a 3 0", NoArrow), ("arrow a 1 1", NoArrow), ("strike a 5", NoArrow),
                ("strike a 999999999", NoArrow), ("renewed a 5", NoArrow), ("passed a 0 1", NoCheck),
                ("passed a 0 0", NoCheck), ("passed a 1 0,5", NoCheck), ("passed a 99 98", NoCheck),
                ("failed a 4,0 1", NoCheck), ("failed a 1 1", NoCheck), ("failed a 0,4 2", NoCheck),
                ("ways a 4 0", NoPlace), ("ways a 0 4", NoPlace), ("clusters a 4 0", NoPlace),
                ("clusters a 0 4", NoPlace), ("same a 5 0", NoWay), ("same a 0 5", NoWay), ("same a 4,0 0", NoWay),
                ("same a 0 1", NoPair), ("same a 0,4,3 1", NoPair)):
            self.raises(error, line)

    def test_too_many(self):
        for many in (1500, 1501):
            desk = desk_of(Web(1, ()), many_ways_web(1500))
            for _ in range(many - 1500):
                desk.tell("arrow b 0 2")
            if many == 1500:
                self.assertEqual(desk.tell("same b 0,30 1,30"), "no")
            else:
                with self.assertRaises(TooMany) as caught:
                    desk.tell("same b 0,30 1,30")
                self.assertEqual(caught.exception.most, 1500)

    def test_undo_with_nothing_done(self):
        for desk in (Desk(), desk_of()):
            for _ in range(2):
                with self.assertRaises(NothingDone):
                    desk.tell("undo")
                self.assertEqual(told(desk), ["none", 0])
            for line in ("show a", "drop a"):
                with self.assertRaises(NoName):
                    desk.tell(line)
            self.assertEqual(desk.undoable(), 0)

    def test_a_desk_is_equal_to_nothing_of_another_kind(self):
        for thing in (D, Ledger(D), None, (), "x"):
            self.assertFalse(Desk() == thing)


if __name__ == "__main__":
    unittest.main()
