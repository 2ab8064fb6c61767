"""8.1, enough_so of 8.2, and what 0.2 to 0.5 say of enoughchecks/papers.py."""

import itertools
import random
import unittest

from enoughchecks.chains import follows
from enoughchecks.changes import beside, cube, mirrored
from enoughchecks.enough import enough, further
from enoughchecks.errors import TooMany
from enoughchecks.papers import enough_so, is_paper, paper, surely
from enoughchecks.webs import Web, ends, is_way
from tests.support import C, D, H, S, T, WRONG_NUMBERS, WRONG_TUPLES, agree, all_worlds, double_row, plain_checks
from tests.support import plain_homes, plain_ways, plainly_so, raises_pair_errors, raises_told_errors
from tests.support import raises_told_errors_first, row_web, some_checks, some_told, some_webs, struck_pairs, ways_of

SORTS = ("one", "onto")
# In this web the last arrow, if it is one-to-one, strikes from the check that of both arrows ahead of it.
STRUCK = [((0, 2), (1, 2))]


def wide_of(many):
    """A row of 24 places with its 276 ways, and arrows alike from a place to another one, up to so many ways."""
    return Web(27, tuple((place, place + 1) for place in range(23)) + ((26, 25),) * (many - 276))


def cases(seed, many=60, most_arrows=8, most=4, most_places=5):
    chooser = random.Random(seed)
    for web in some_webs(many, most_places, most_arrows):
        for sort in SORTS:
            yield web, some_checks(web, chooser, most), sort, some_told(web, chooser), chooser


def striking_cases(seed, many=80):
    """Cases in which strikes tell much: checks of ways that begin or end alike, of webs with many of them."""
    chooser = random.Random(seed)
    webs = [web for web in (double_row(3), double_row(4), *some_webs(many, 4, 10)) if len(ways_of(web)) <= 80]
    for web in webs:
        for sort in SORTS:
            told = some_told(web, chooser)
            alike = [check for check in plain_checks(web) if struck_pairs(sort, told, *check)]
            checks = chooser.sample(alike, min(len(alike), chooser.randint(1, 4)))
            yield web, [*checks, *[check for check in some_checks(web, chooser, 2) if check not in checks]], sort, told


def turned(checks):
    """The checks of the mirrored web."""
    return [tuple(sorted((one[::-1], other[::-1]))) for one, other in checks]


def plainly_line(web, checks, sort, told, ahead, line):
    """Whether a line of the right form is right, told in the words of the document."""
    one, other, reason = line
    if not is_way(web, one) or not is_way(web, other) or ends(web, one) != ends(web, other):
        return False
    word, *rest = reason
    if word in ("turn", "join", "ahead", "behind", "strike"):
        many = 2 if word == "join" else 1
        if any(not 0 <= k < len(ahead) for k in rest[:many]):
            return False
    if word == "same":
        return one == other
    if word == "check":
        return 0 <= rest[0] < len(checks) and (one, other) == tuple(checks[rest[0]])
    left, right = ahead[rest[0]][:2]
    if word == "turn":
        return one == right and other == left
    if word == "join":
        return one == left and right == ahead[rest[1]][0] and other == ahead[rest[1]][1]
    if word == "ahead":
        return one == (rest[1],) + left and other == (rest[1],) + right
    if word == "behind":
        return one == left + (rest[1],) and other == right + (rest[1],)
    if sort == "one":
        return left[:-1] == one and right[:-1] == other and left[-1] == right[-1] and left[-1] in told
    return left[1:] == one and right[1:] == other and left[0] == right[0] and left[0] in told


def plainly_paper(web, checks, sort, told, one, other, thing):
    return len(thing) > 0 and thing[-1][:2] == (one, other) and all(
        plainly_line(web, checks, sort, told, thing[:k], line) for k, line in enumerate(thing))


def changed_paper(web, thing, chooser):
    """A paper with something in it replaced, left out, or put in another order."""
    lines = [list(line) for line in thing]
    line = chooser.choice(lines)
    kind = chooser.randrange(5)
    if kind == 0:
        lines.remove(line)
    elif kind == 1:
        chooser.shuffle(lines)
    elif kind == 2:
        line[chooser.randrange(2)] = chooser.choice(ways_of(web))
    else:
        word, *rest = line[2]
        if rest and kind == 3:
            rest[chooser.randrange(len(rest))] += chooser.choice((-1, 1))
        elif len(rest) == 1:
            word = chooser.choice(("check", "turn", "strike"))
        elif len(rest) == 2:
            word = chooser.choice(("join", "ahead", "behind"))
        line[2] = (word, *rest)
    return tuple(tuple(line) for line in lines)


class SurelyTest(unittest.TestCase):
    def test_of_the_examples(self):
        self.assertIs(surely(S, STRUCK, "one", (2,), (0,), (1,)), True)
        self.assertIs(surely(S, STRUCK, "onto", (2,), (0,), (1,)), False)
        self.assertIs(surely(S, STRUCK, "one", (), (0,), (1,)), False)
        self.assertIs(surely(S, STRUCK, "one", (0, 1), (0,), (1,)), False)
        self.assertIs(surely(S, STRUCK, "one", (0, 1, 2), (1,), (0,)), True)
        self.assertIs(surely(S, [], "one", (2,), (0, 2), (1, 2)), False)

    def test_against_trying_every_rule_on_all_pairs(self):
        for web, checks, sort, told, _ in cases(121, 100):
            homes = plain_homes(web, checks, sort, told)
            for one, other in itertools.product(list(homes)[:12], list(homes)):
                if ends(web, one) == ends(web, other):
                    self.assertIs(surely(web, checks, sort, told, one, other), homes[one] == homes[other])

    def test_without_told_arrows_as_follows(self):
        for web, checks, sort, _, _ in cases(122, 60):
            for one, other in plain_checks(web)[:10]:
                self.assertIs(surely(web, checks, sort, (), one, other), follows(web, checks, one, other))

    def test_a_way_surely_follows_from_itself(self):
        for web, checks, sort, told, _ in cases(123, 20):
            for way in ways_of(web)[:10]:
                self.assertIs(surely(web, checks, sort, told, way, way), True)
                self.assertIs(is_paper(web, checks, sort, told, way, way, ((way, way, ("same",)),)), True)

    def test_the_mirrored_web_with_the_other_sort(self):
        for web, checks, sort, told, _ in cases(124, 60):
            other_sort = {"one": "onto", "onto": "one"}[sort]
            for one, other in plain_checks(web)[:10]:
                self.assertIs(surely(web, checks, sort, told, one, other),
                              surely(mirrored(web), turned(checks), other_sort, told, one[::-1], other[::-1]))

    def test_what_surely_follows_agrees_in_every_small_world_that_is_so(self):
        chooser = random.Random(125)
        for web in (S, H, Web(3, ((0, 1), (1, 2), (1, 2))), Web(4, ((0, 1), (0, 1), (1, 2), (2, 3)))):
            worlds = list(all_worlds(web, 2))
            for sort in SORTS:
                for _ in range(8):
                    checks = some_checks(web, chooser, 3)
                    told = some_told(web, chooser)
                    right = [world for world in worlds if plainly_so(web, sort, told, world)
                             and all(agree(web, world, *check) for check in checks)]
                    for one, other in plain_checks(web):
                        # In webs as small as these, worlds of two things at each place tell all.
                        self.assertIs(surely(web, checks, sort, told, one, other),
                                      all(agree(web, world, one, other) for world in right))

    def test_only_the_last_or_the_first_arrow_is_struck(self):
        web = Web(4, ((0, 1), (1, 2), (1, 2), (2, 3)))
        through = [((0, 1, 3), (0, 2, 3))]
        for sort, told, expected in (("one", (3,), (True, False)), ("onto", (0,), (False, True)),
                                     ("one", (0,), (False, False)), ("onto", (3,), (False, False)),
                                     ("one", (1, 2), (False, False)), ("onto", (1, 2), (False, False))):
            self.assertIs(surely(web, through, sort, told, (0, 1), (0, 2)), expected[0])
            self.assertIs(surely(web, through, sort, told, (1, 3), (2, 3)), expected[1])
            self.assertIs(surely(web, through, sort, told, (1,), (2,)), False)

    def test_what_is_struck_goes_on(self):
        # What a strike tells is put behind another arrow, is joined there and struck again.
        web = Web(4, ((0, 1), (0, 1), (1, 2), (1, 3), (1, 3)))
        checks = [((0, 2), (1, 2)), ((0, 3), (1, 4))]
        self.assertIs(surely(web, checks, "one", (2,), (0, 3), (0, 4)), True)
        self.assertIs(surely(web, checks, "one", (3,), (0, 3), (0, 4)), False)
        self.assertIs(surely(web, checks, "onto", (0, 1), (3,), (4,)), False)
        self.assertIs(surely(web, [*checks, ((0, 4), (1, 4))], "onto", (0,), (3,), (4,)), True)
        self.assertIs(surely(web, [*checks, ((0, 4), (1, 4))], "onto", (1,), (3,), (4,)), False)
        checks = [((0, 2), (1, 2)), ((0, 3), (0, 4))]
        self.assertIs(surely(web, checks, "onto", (0,), (3,), (4,)), True)
        self.assertIs(surely(web, checks, "onto", (0,), (1, 3), (1, 4)), True)
        self.assertIs(surely(web, checks, "onto", (1,), (3,), (4,)), False)

    def test_long_strikes(self):
        web = Web(22, ((0, 1), (0, 1), *[(place, place + 1) for place in range(1, 21)]))
        row = tuple(range(2, 22))
        checks = [((0, *row), (1, *row))]
        self.assertIs(surely(web, checks, "one", row, (0,), (1,)), True)
        found = paper(web, checks, "one", row, (0,), (1,))
        self.assertIs(is_paper(web, checks, "one", row, (0,), (1,), found), True)
        self.assertIs(surely(web, checks, "one", row[:-1], (0,), (1,)), False)
        self.assertIs(surely(web, checks, "one", row[1:], (0,), (1,)), False)
        self.assertIs(surely(web, checks, "one", row[1:], (0, 2), (1, 2)), True)


class PaperTest(unittest.TestCase):
    def test_of_the_examples(self):
        found = paper(S, STRUCK, "one", (2,), (0,), (1,))
        self.assertIs(plainly_paper(S, STRUCK, "one", (2,), (0,), (1,), found), True)
        self.assertIsNone(paper(S, STRUCK, "onto", (2,), (0,), (1,)))

    def test_by_what_it_is(self):
        longest = 0
        for web, checks, sort, told, chooser in cases(126, 150, 9, 5):
            every = [*plain_checks(web), *[(way, way) for way in ways_of(web)]]
            for pair in chooser.sample(every, min(len(every), 8)):
                one, other = chooser.sample(pair, 2)
                found = paper(web, checks, sort, told, one, other)
                self.assertIs(found is not None, surely(web, checks, sort, told, one, other))
                self.assertIs(is_paper(web, checks, sort, told, one, other, found), found is not None)
                if found is not None:
                    self.assertIs(type(found), tuple)
                    self.assertIs(plainly_paper(web, checks, sort, told, one, other, found), True)
                    longest = max(longest, len(found))
        self.assertGreater(longest, 5)

    def test_papers_in_which_much_is_struck(self):
        seen = 0
        for web, checks, sort, told in striking_cases(127):
            homes = plain_homes(web, checks, sort, told)
            for one, other in plain_checks(web)[:60]:
                found = paper(web, checks, sort, told, one, other)
                self.assertIs(found is not None, homes[one] == homes[other])
                self.assertIs(is_paper(web, checks, sort, told, one, other, found), found is not None)
                if found is not None:
                    self.assertIs(plainly_paper(web, checks, sort, told, one, other, found), True)
                    seen += [reason[0] for _, _, reason in found].count("strike")
        self.assertGreater(seen, 200)

    def test_changed_papers_against_the_words_of_the_document(self):
        seen = {True: 0, False: 0}
        chooser = random.Random(128)
        for web, checks, sort, told in striking_cases(129):
            for one, other in plain_checks(web)[:12]:
                found = paper(web, checks, sort, told, one, other)
                for _ in range(6 if found is not None else 0):
                    thing = changed_paper(web, found, chooser)
                    expected = plainly_paper(web, checks, sort, told, one, other, thing)
                    self.assertIs(is_paper(web, checks, sort, told, one, other, thing), expected)
                    seen[expected] += 1
        self.assertGreater(min(seen.values()), 100)

    def test_papers_longer_than_need_be(self):
        found = (((0, 2), (1, 2), ("check", 0)), ((0,), (1,), ("strike", 0)))
        longer = (((2,), (2,), ("same",)), *found[:1], ((1, 2), (0, 2), ("turn", 1)), ((0, 2), (0, 2), ("join", 1, 2)),
                  ((0,), (0,), ("strike", 3)), ((0,), (1,), ("strike", 1)), ((0, 2), (1, 2), ("behind", 5, 2)),
                  ((1,), (0,), ("turn", 5)), ((0,), (1,), ("turn", 7)))
        self.assertIs(is_paper(S, STRUCK, "one", (2,), (0,), (1,), found), True)
        self.assertIs(is_paper(S, STRUCK, "one", (2,), (0,), (1,), longer), True)
        self.assertIs(is_paper(S, STRUCK, "one", (2,), (0,), (1,), longer[:-1]), False)
        self.assertIs(is_paper(S, STRUCK, "one", (2,), (1,), (0,), longer[:-1]), True)
        many = longer[:1] * 1000 + found[:1] + (((0,), (1,), ("strike", 1000)),)
        self.assertIs(is_paper(S, STRUCK, "one", (2,), (0,), (1,), many), True)
        self.assertIs(is_paper(S, STRUCK, "one", (2,), (0,), (1,), many[1:]), False)

    def test_each_reason_right_and_wrong(self):
        web = Web(4, ((0, 1), (1, 2), (1, 2), (1, 2), (2, 3)))
        checks = [((1,), (2,)), ((2,), (3,))]
        start = (((1,), (2,), ("check", 0)), ((2,), (3,), ("check", 1)))
        for line, right in (
                (((1,), (1,), ("same",)), True), (((1,), (2,), ("same",)), False), (((1,), (1,), ("same", 0)), False),
                (((1,), (1,), "same"), False), (((1,), (1,), ["same"]), False), (((1,), (1,), ()), False),
                (((1,), (2,), ("check", 0)), True), (((1,), (2,), ("check", 1)), False),
                (((2,), (1,), ("check", 0)), False), (((1,), (2,), ("check", 2)), False),
                (((1,), (2,), ("check", -2)), False), (((1,), (2,), ("check", False)), False),
                (((1,), (2,), ("check",)), False), (((1,), (2,), ("check", 0, 0)), False),
                (((2,), (1,), ("turn", 0)), True), (((1,), (2,), ("turn", 0)), False),
                (((3,), (2,), ("turn", 1)), True), (((2,), (1,), ("turn", 2)), False),
                (((2,), (1,), ("turn", False)), False), (((2,), (1,), ("turn", -2)), False),
                (((2,), (1,), ("turn", 0, 0)), False), (((2,), (1,), ("turn",)), False),
                (((1,), (3,), ("join", 0, 1)), True), (((1,), (3,), ("join", 1, 0)), False),
                (((1,), (2,), ("join", 0, 1)), False), (((2,), (3,), ("join", 0, 1)), False),
                (((1,), (2,), ("join", 0, 0)), False), (((1,), (3,), ("join", 0, 2)), False),
                (((1,), (3,), ("join", 0, True)), False), (((1,), (3,), ("join", False, 1)), False),
                (((1,), (3,), ("join", 0)), False), (((1,), (3,), ("join", 0, 1, 1)), False),
                (((1,), (3,), ("join", -2, -1)), False),
                (((0, 1), (0, 2), ("ahead", 0, 0)), True), (((0, 2), (0, 1), ("ahead", 0, 0)), False),
                (((0, 1), (0, 2), ("ahead", 1, 0)), False), (((0, 1), (0, 2), ("ahead", 0, 4)), False),
                (((0, 1), (0, 2), ("ahead", 0, False)), False), (((0, 1), (0, 2), ("ahead", 0)), False),
                (((0, 1), (0, 2), ("ahead", 0, 0, 0)), False), (((4, 1), (4, 2), ("ahead", 0, 4)), False),
                (((0, 1), (0, 2), ("behind", 0, 0)), False), (((0, 1), (0, 2), ("ahead", False, 0)), False),
                (((1, 4), (2, 4), ("behind", 0, 4)), True), (((2, 4), (1, 4), ("behind", 0, 4)), False),
                (((1, 4), (2, 4), ("behind", 1, 4)), False), (((1, 4), (2, 4), ("behind", 0, 0)), False),
                (((1, 4), (2, 4), ("behind", 0)), False), (((1, 4), (2, 4), ("behind", 0, 4, 4)), False),
                (((1, 4), (2, 4), ("behind", 2, 4)), False), (((1, 4), (2, 4), ("behind", 0, "4")), False),
                (((1, 0), (2, 0), ("behind", 0, 0)), False), (((1, 4), (2, 4), ("behind", 0, -1)), False),
                (((1, 4), (2, 4), ("onward", 0, 4)), False), (((1, 4), (2, 4), (None, 0, 4)), False),
                (((1,), (3,), ("follow", 0, 1)), False), (((2,), (1,), ("", 0)), False),
                (((1,), (2,), ("check", 0), 0), False), (((1,), (2,)), False), ([(1,), (2,), ("check", 0)], False),
                (((1,), [2], ("check", 0)), False), (([1], (2,), ("check", 0)), False),
                (((True,), (2,), ("check", 0)), False), (((0, 1), (1,), ("same",)), False),
                ((None, None, ("same",)), False), (((), (), ("same",)), False), (((5,), (5,), ("same",)), False),
                (((0,), (1,), ("turn", 2)), False)):
            one, other = line[:2] if len(line) == 3 and right else ((1,), (1,))
            last = ((1,), (1,), ("same",))
            thing = (*start, line) if right else (*start, line, last)
            self.assertIs(is_paper(web, checks, "one", (), one, other, thing), right, line)
            self.assertIs(is_paper(web, checks, "onto", (), one, other, thing), right, line)

    def test_strikes_right_and_wrong(self):
        web = Web(4, ((0, 1), (1, 2), (1, 2), (2, 3), (2, 3)))
        checks = [((0, 1, 3), (0, 2, 3)), ((1, 3), (2, 4))]
        start = tuple((*check, ("check", k)) for k, check in enumerate(checks))
        for sort, told, line, right in (
                ("one", (3,), ((0, 1), (0, 2), ("strike", 0)), True),
                ("one", (3, 4), ((0, 1), (0, 2), ("strike", 0)), True),
                ("one", (0, 4), ((0, 1), (0, 2), ("strike", 0)), False),
                ("one", (), ((0, 1), (0, 2), ("strike", 0)), False),
                ("onto", (3,), ((0, 1), (0, 2), ("strike", 0)), False),
                ("onto", (0,), ((1, 3), (2, 3), ("strike", 0)), True),
                ("onto", (0, 1, 2, 3), ((1, 3), (2, 3), ("strike", 0)), True),
                ("onto", (3,), ((1, 3), (2, 3), ("strike", 0)), False),
                ("one", (0,), ((1, 3), (2, 3), ("strike", 0)), False),
                ("one", (0, 3), ((1,), (2,), ("strike", 0)), False),
                ("onto", (0, 3), ((1,), (2,), ("strike", 0)), False),
                ("one", (3,), ((0, 2), (0, 1), ("strike", 0)), False),
                ("one", (3,), ((0, 1), (0, 1), ("strike", 0)), False),
                ("one", (3,), ((0, 2), (0, 2), ("strike", 0)), False),
                ("one", (3, 4), ((1,), (2,), ("strike", 1)), False),
                ("one", (3,), ((1,), (2,), ("strike", 1)), False),
                ("one", (4,), ((1,), (2,), ("strike", 1)), False),
                ("onto", (1, 2), ((3,), (4,), ("strike", 1)), False),
                ("onto", (1,), ((3,), (4,), ("strike", 1)), False),
                ("one", (3,), ((0, 1), (0, 2), ("strike", 2)), False),
                ("one", (3,), ((0, 1), (0, 2), ("strike", 3)), False),
                ("one", (3,), ((0, 1), (0, 2), ("strike", False)), False),
                ("one", (3,), ((0, 1), (0, 2), ("strike",)), False),
                ("one", (3,), ((0, 1), (0, 2), ("strike", 0, 3)), False)):
            thing = (*start, line)
            self.assertIs(is_paper(web, checks, sort, told, *line[:2], thing), right, line)

    def test_a_strike_leaves_no_way_without_arrows(self):
        thing = (((0,), (0,), ("same",)), ((), (), ("strike", 0)), ((0,), (0,), ("same",)))
        for sort in SORTS:
            self.assertIs(is_paper(S, [], sort, (0, 1, 2), (0,), (0,), thing), False)
            self.assertIs(surely(S, [], sort, (0, 1, 2), (0,), (1,)), False)

    def test_no_line_leans_on_itself_or_on_one_behind_it(self):
        line = ((0,), (1,), ("check", 0))
        for thing in ((((0,), (1,), ("turn", 0)),), (((0,), (0,), ("join", 0, 0)),),
                      (((1,), (0,), ("turn", 1)), line), (((0,), (1,), ("turn", 1)), ((1,), (0,), ("turn", 0))),
                      (line, ((0, 2), (1, 2), ("behind", 1, 2))), (line, ((0,), (1,), ("strike", 1)))):
            one, other = thing[-1][:2]
            self.assertIs(is_paper(S, [((0,), (1,))], "one", (0, 1, 2), one, other, thing), False)

    def test_the_last_line_has_the_pair_in_this_order(self):
        line = ((0,), (1,), ("check", 0))
        checks = [((0,), (1,))]
        self.assertIs(is_paper(S, checks, "one", (), (0,), (1,), (line,)), True)
        self.assertIs(is_paper(S, checks, "one", (), (1,), (0,), (line,)), False)
        self.assertIs(is_paper(S, checks, "one", (), (0,), (0,), (line,)), False)
        self.assertIs(is_paper(S, checks, "one", (), (0,), (1,), (line, ((0,), (0,), ("same",)))), False)
        self.assertIs(is_paper(S, checks, "one", (), (0,), (0,), (line, ((0,), (0,), ("same",)))), True)
        for thing in ((), [line], line, (list(line),), None, {}, "", 0, (line, None), (None, line), ((line,),)):
            self.assertIs(is_paper(S, checks, "one", (), (0,), (1,), thing), False)

    def test_wrong_things(self):
        for thing in WRONG_TUPLES:
            for wrong in (thing, (thing,), ((thing, (1,), ("same",)),), (((0,), thing, ("check", 0)),),
                          (((0,), (1,), thing),), (((0,), (1,), (thing,)),), (((0,), (0,), ("same", thing)),),
                          (((0,), (0,), ("same",), thing),), (((0,), (1,), ("turn", thing)),)):
                self.assertIs(is_paper(S, [((0,), (1,))], "one", (2,), (0,), (1,), wrong), False)
        for thing in WRONG_NUMBERS:
            lines = (((0,), (1,), ("check", 0)), ((0, 2), (1, 2), ("behind", 0, thing)))
            self.assertIs(is_paper(S, [((0,), (1,))], "one", (2,), (0, 2), (1, 2), lines), False)
            lines = (((0,), (1,), ("check", thing)),)
            self.assertIs(is_paper(S, [((0,), (1,))], "one", (2,), (0,), (1,), lines), False)
            lines = (((0,), (1,), ("check", 0)), ((0,), (0,), ("join", 0, thing)))
            self.assertIs(is_paper(S, [((0,), (1,))], "one", (2,), (0,), (0,), lines), False)


class EnoughSoTest(unittest.TestCase):
    def test_of_the_examples(self):
        self.assertIs(enough_so(S, STRUCK, "one", (2,)), True)
        self.assertIs(enough_so(S, STRUCK, "onto", (2,)), False)
        self.assertIs(enough_so(S, STRUCK, "one", ()), False)
        self.assertIs(enough_so(T, C, "one", ()), True)
        self.assertIs(enough_so(T, tuple(C), "onto", (0, 1, 2, 3, 4)), True)
        self.assertIs(enough_so(T, C[:1], "one", (0, 1, 2, 3, 4)), False)

    def test_against_trying_every_rule_on_all_pairs(self):
        seen = {True: 0, False: 0}
        for web, checks, sort, told, chooser in cases(129, 100):
            for more in (checks, [*checks, *[check for check in further(web, checks) if chooser.random() < 0.7]]):
                homes = plain_homes(web, more, sort, told)
                expected = all(homes[one] == homes[other] for one, other in plain_checks(web))
                self.assertIs(enough_so(web, more, sort, told), expected)
                seen[expected] += 1
        self.assertGreater(min(seen.values()), 40)

    def test_without_told_arrows_as_enough(self):
        for web, checks, sort, _, _ in cases(130, 60):
            self.assertIs(enough_so(web, checks, sort, ()), enough(web, checks))

    def test_fewer_checks_where_arrows_are_onto(self):
        # Where all arrows of a tree from the root are onto, one check for each other arrow is enough.
        self.assertIs(enough_so(T, [((0, 2), (1, 3)), ((0, 4), (1,))], "onto", (0, 1, 2)), True)
        self.assertIs(enough_so(T, [((0, 2), (1, 3)), ((0, 4), (1,))], "one", (0, 1, 2)), False)
        self.assertIs(enough(T, [((0, 2), (1, 3)), ((0, 4), (1,))]), False)
        web = Web(3, ((0, 1), (1, 2), (1, 2)))
        self.assertIs(enough_so(web, [((0, 1), (0, 2))], "onto", (0,)), True)
        self.assertIs(enough_so(web, [((0, 1), (0, 2))], "onto", ()), False)

    def test_of_webs_without_checks(self):
        for web in (Web(1, ()), Web(60, ()), row_web(20)):
            for sort in SORTS:
                self.assertIs(enough_so(web, [], sort, ()), True)
                self.assertIs(enough_so(web, (), sort, tuple(range(len(web.arrows)))), True)


class ErrorsTest(unittest.TestCase):
    CALLS = (
        surely, paper, lambda *things: is_paper(*things, None), lambda *things: is_paper(*things, ()),
        lambda web, checks, sort, told, one, other: enough_so(web, checks, sort, told))

    def test_in_their_order(self):
        for call in self.CALLS:
            raises_told_errors(self, call)
            raises_told_errors_first(self, call)
        for call in self.CALLS[:-1]:
            raises_pair_errors(self, call)

    def test_300_ways_and_one_more(self):
        web = wide_of(300)
        checks = [((23,), (24,)), ((24,), (25,))]
        self.assertIs(surely(web, checks, "one", (0,), (23,), (25,)), True)
        self.assertIs(surely(web, checks, "onto", (0,), (23,), (26,)), False)
        self.assertIs(enough_so(web, checks, "one", ()), False)
        found = paper(web, checks, "one", (0, 23), (25,), (23,))
        web = wide_of(301)
        for call in (lambda: surely(web, checks, "one", (0,), (23,), (25,)),
                     lambda: surely(web, [], "one", (), (0,), (0,)),
                     lambda: paper(web, checks, "onto", (), (0,), (0,)), lambda: enough_so(web, (), "onto", (3,))):
            with self.assertRaises(TooMany) as caught:
                call()
            self.assertEqual(caught.exception.most, 300)
        self.assertIs(is_paper(web, checks, "one", (0, 23), (25,), (23,), found), True)
        self.assertIs(is_paper(web, checks, "one", (0, 23), (23,), (25,), found), False)

    def test_webs_beyond_what_can_be_constructed(self):
        web = beside(beside(Web(60, ()), Web(60, ())), S)
        self.assertIs(surely(web, STRUCK, "one", (2,), (0,), (1,)), True)
        self.assertIs(enough_so(web, STRUCK, "one", (2,)), True)
        for web in (cube(6), double_row(59)):
            with self.assertRaises(TooMany):
                enough_so(web, [], "one", ())
        way = plain_ways(D, 0, 3)[0]
        self.assertEqual(paper(D, [], "one", (), way, way), ((way, way, ("same",)),))

    def test_nothing_is_changed(self):
        checks = list(STRUCK)
        paper(S, checks, "one", (2,), (0,), (1,))
        enough_so(H, [], "one", ())
        self.assertEqual(checks, STRUCK)


if __name__ == "__main__":
    unittest.main()
