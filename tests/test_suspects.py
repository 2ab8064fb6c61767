"""9 and what 0.2 to 0.5 say of enoughchecks/suspects.py."""

import itertools
import random
import unittest

from enoughchecks.changes import beside, cube, with_arrow
from enoughchecks.enough import further
from enoughchecks.errors import NoArrow, NoChecks, NoFailed
from enoughchecks.leasts import least_list
from enoughchecks.suspects import bar, is_bar, is_spoiled, never_seen, next_check, spoiled, suspects, unseen
from enoughchecks.webs import Web
from enoughchecks.worlds import is_world
from tests.support import C, D, H, NO_CHECKS, NO_NUMBERS_NO_TUPLES, NO_TOLD, ODD_TUPLES, S, T, WRONG_NUMBERS
from tests.support import WRONG_TUPLES, agree, all_worlds, changed_world, double_row, held_together, plain_checks
from tests.support import plain_ways, row_web, some_checks, some_webs, some_world, wide_web

# What is no lot of two checks; what is no lot of told arrows of T is none either.
NO_FAILED = [*NO_TOLD, (2,), (0, 2), (0, 1, 2), [0], [], 0]


def plain_ends(web, way):
    return web.arrows[way[0]][0], web.arrows[way[-1]][1]


def plain_reaches(web, place, other):
    return place == other or len(plain_ways(web, place, other)) > 0


def just_one_has(check, arrow):
    return (arrow in check[0]) != (arrow in check[1])


def plainly_bar(web, checks, failed, arrow, thing):
    """Whether a tuple of a word and numbers is a bar, by the words of the document."""
    word, *rest = thing
    if word == "beside" and len(rest) == 1:
        return rest[0] in failed and not just_one_has(checks[rest[0]], arrow)
    if word == "within" and len(rest) == 2:
        i, j = rest
        if i not in failed or not 0 <= j < len(checks) or j in failed or not just_one_has(checks[j], arrow):
            return False
        (u, v), (begin, end) = plain_ends(web, checks[i][0]), plain_ends(web, checks[j][0])
        return plain_reaches(web, u, begin) and plain_reaches(web, end, v)
    return False


def all_bars(checks):
    """All tuples of the form of a bar, and some with one number too many or out of bounds."""
    many = range(-1, len(checks) + 1)
    for i in many:
        yield ("beside", i)
        yield ("within", i)
        yield ("behind", i)
        for j in many:
            yield ("within", i, j)
            yield ("beside", i, j)
            yield ("behind", i, j)
            yield ("within", i, j, 0)


def all_agree(web, world):
    return all(agree(web, world, *check) for check in plain_checks(web))


def with_table(world, arrow, table):
    return world[0], world[1][:arrow] + (table,) + world[1][arrow + 1:]


def plain_failed(web, world, checks):
    return tuple(k for k, check in enumerate(checks) if not agree(web, world, *check))


def plainly_spoiled(web, checks, failed, arrow, thing):
    """Whether a pair of a world and of a table of integers is one, by the words of the document."""
    world, table = thing
    begin, end = web.arrows[arrow]
    if len(table) != world[0][begin] or not all(0 <= item < world[0][end] for item in table):
        return False
    return all_agree(web, world) and plain_failed(web, with_table(world, arrow, table), checks) == failed


def tables_of(web, world, arrow):
    begin, end = web.arrows[arrow]
    return itertools.product(range(world[0][end]), repeat=world[0][begin])


def agreeing_world(web, chooser):
    """A world in which all ways agree: things are lots of dots, those of a place held together by links ahead of it."""
    dots = range(chooser.randint(1, 4))
    links = [[tuple(chooser.choices(dots, k=2)) for _ in range(chooser.randint(0, 1))] for _ in range(web.places)]
    things = []
    for place in range(web.places):
        ahead = [other for other in range(web.places) if plain_reaches(web, other, place)]
        things.append(held_together(dots, [link for other in ahead for link in links[other]]))
    tables = [tuple(next(k for k, lot in enumerate(things[end]) if thing[0] in lot) for thing in things[begin])
              for begin, end in web.arrows]
    return tuple(len(row) for row in things), tuple(tables)


def some_failed(checks, chooser):
    many = chooser.choice((0, 1, 1, 2, len(checks)))
    return tuple(sorted(chooser.sample(range(len(checks)), min(many, len(checks)))))


def failed_by_chance(web, checks, chooser):
    """A lot that fails in some spoiled world, so that there is a suspect, told with that suspect."""
    arrow = chooser.randrange(len(web.arrows))
    seen = [k for k, check in enumerate(checks) if just_one_has(check, arrow)]
    chosen = chooser.sample(seen, chooser.randint(0, len(seen)))
    failed = set(chosen)
    for i in chosen:
        u, v = plain_ends(web, checks[i][0])
        for j in seen:
            begin, end = plain_ends(web, checks[j][0])
            if plain_reaches(web, u, begin) and plain_reaches(web, end, v):
                failed.add(j)
    return tuple(sorted(failed)), arrow


def cases(seed, many=80, most_places=6, most_arrows=9, most=6):
    """Webs, checks and failed lots, half of them by chance and half such that there is a suspect."""
    chooser = random.Random(seed)
    for web in some_webs(many, most_places, most_arrows):
        checks = some_checks(web, chooser, most)
        yield web, checks, some_failed(checks, chooser), chooser
        if web.arrows:
            yield web, checks, failed_by_chance(web, checks, chooser)[0], chooser


class SuspectsTest(unittest.TestCase):
    def test_of_the_examples(self):
        self.assertEqual(suspects(T, C, (0,)), (0, 1, 4))
        self.assertEqual(suspects(T, C, (0, 1)), (4,))
        self.assertEqual(suspects(T, tuple(C), (1,)), (2, 3, 4))
        self.assertEqual(suspects(T, [((0, 2), (1, 3)), *C], (1,)), (0, 1, 4))
        self.assertEqual(suspects(H, [((0,), (1,)), ((1,), (2,)), ((0,), (2,))], (0, 1, 2)), ())
        self.assertEqual(suspects(S, [((0, 2), (1, 2)), ((0,), (1,))], (0,)), ())
        self.assertEqual(suspects(S, [((0, 2), (1, 2)), ((0,), (1,))], (1,)), (0, 1))

    def test_the_sixth_fact(self):
        some = none = 0
        for web, checks, failed, _ in cases(91, 150):
            found = []
            for arrow in range(len(web.arrows)):
                told = bar(web, checks, failed, arrow)
                pair = spoiled(web, checks, failed, arrow)
                self.assertIs(told is None, pair is not None)
                self.assertIs(is_bar(web, checks, failed, arrow, told), told is not None)
                self.assertIs(is_spoiled(web, checks, failed, arrow, pair), pair is not None)
                if told is None:
                    found.append(arrow)
                    self.assertIs(is_world(web, pair[0]), True)
                    self.assertIs(plainly_spoiled(web, checks, failed, arrow, pair), True)
                else:
                    self.assertIs(plainly_bar(web, checks, failed, arrow, told), True)
            self.assertEqual(suspects(web, checks, failed), tuple(found))
            some += len(found) > 0 and len(failed) > 0
            none += len(found) == 0
        self.assertGreater(some, 30)
        self.assertGreater(none, 30)

    def test_against_all_small_worlds(self):
        chooser = random.Random(92)
        webs = (D, H, S, Web(2, ((0, 1), (0, 1))), Web(3, ((0, 1), (1, 2), (1, 2))), Web(3, ((0, 1), (1, 2), (0, 2))),
                Web(3, ((0, 2), (0, 1), (0, 1), (1, 2))), Web(3, ((0, 1),)))
        for web in webs:
            every = plain_checks(web)
            chooser.shuffle(every)
            occurring = set()
            for world in all_worlds(web, 2):
                if all_agree(web, world):
                    for arrow in range(len(web.arrows)):
                        for table in tables_of(web, world, arrow):
                            occurring.add((arrow, plain_failed(web, with_table(world, arrow, table), every)))
            for many in range(len(every) + 1):
                for failed in itertools.combinations(range(len(every)), many):
                    expected = tuple(arrow for arrow in range(len(web.arrows)) if (arrow, failed) in occurring)
                    self.assertEqual(suspects(web, every, failed), expected)

    def test_spoiled_worlds_by_chance_blame_their_arrow(self):
        chooser = random.Random(93)
        seen = 0
        for web in some_webs(150, 6, 9):
            for world in (agreeing_world(web, chooser), agreeing_world(web, chooser), some_world(web, chooser, 2)):
                if not web.arrows or not all_agree(web, world):
                    continue
                for arrow in range(len(web.arrows)):
                    begin, end = web.arrows[arrow]
                    table = tuple(chooser.randrange(world[0][end]) for _ in range(world[0][begin]))
                    checks = some_checks(web, chooser, 7)
                    failed = plain_failed(web, with_table(world, arrow, table), checks)
                    self.assertIn(arrow, suspects(web, checks, failed))
                    self.assertIsNone(bar(web, checks, failed, arrow))
                    self.assertIs(is_spoiled(web, checks, failed, arrow, (world, table)), True)
                    seen += len(failed) > 0
        self.assertGreater(seen, 200)

    def test_if_nothing_failed_all_arrows_are_suspects(self):
        chooser = random.Random(94)
        for web in [*some_webs(40), Web(1, ()), wide_web(), cube(4)]:
            for checks in ([], (), some_checks(web, chooser, 4) if len(web.arrows) < 20 else further(web, [])[:5]):
                self.assertEqual(suspects(web, checks, ()), tuple(range(len(web.arrows))))
                if web.arrows:
                    world, table = spoiled(web, checks, (), len(web.arrows) - 1)
                    self.assertIs(is_spoiled(web, checks, (), len(web.arrows) - 1, (world, table)), True)

    def test_if_all_checks_failed(self):
        for web in some_webs(60):
            every = plain_checks(web)
            whole = tuple(range(len(every)))
            expected = tuple(arrow for arrow in range(len(web.arrows))
                             if all(just_one_has(check, arrow) for check in every))
            self.assertEqual(suspects(web, every, whole), expected)

    def test_an_arrow_that_both_ways_have(self):
        checks = [((0, 2), (1, 2))]
        self.assertEqual(bar(S, checks, (0,), 2), ("beside", 0))
        self.assertEqual(suspects(S, checks, (0,)), (0, 1))
        self.assertEqual(suspects(S, checks, ()), (0, 1, 2))
        web = with_arrow(S, 0, 2)
        checks = [((0, 2), (1, 2)), ((0, 2), (3,))]
        self.assertEqual(suspects(web, checks, (1,)), (2, 3))
        self.assertEqual(suspects(web, checks, (0,)), (1,))
        # A check that is passed and has the arrow in both ways bars nothing.
        self.assertIs(is_bar(web, checks, (1,), 2, ("within", 1, 0)), False)
        self.assertIs(is_bar(web, checks, (1,), 0, ("within", 1, 0)), True)

    def test_great_webs(self):
        web = cube(6)
        checks = further(web, [])
        self.assertEqual(suspects(web, checks, (5,)), tuple(sorted(set(checks[5][0] + checks[5][1]))))
        pair = spoiled(web, checks, (5,), checks[5][0][0])
        self.assertIs(is_spoiled(web, checks, (5,), checks[5][0][0], pair), True)
        web = wide_web()
        checks = further(web, [])
        # These checks compare the first arrow with each that is like it.
        self.assertEqual(suspects(web, checks, tuple(range(6))), (0,))
        self.assertEqual(suspects(web, checks, (0,)), checks[0][1])
        web = beside(beside(Web(60, ()), Web(60, ())), T)
        self.assertEqual(suspects(web, C, (0,)), (0, 1, 4))
        self.assertIs(is_spoiled(web, C, (0,), 4, spoiled(web, C, (0,), 4)), True)


class BarTest(unittest.TestCase):
    def test_of_the_examples(self):
        self.assertIs(is_bar(T, C, (0,), 2, ("beside", 0)), True)
        self.assertEqual(bar(T, C, (0,), 2), ("beside", 0))
        self.assertIsNone(bar(T, C, (0,), 4))
        checks = [((0, 2), (1, 3)), *C]
        self.assertEqual(bar(T, checks, (0,), 0), ("within", 0, 1))
        self.assertEqual(bar(T, checks, (0,), 3), ("within", 0, 2))
        self.assertEqual(bar(T, checks, (0,), 4), ("beside", 0))
        self.assertEqual(suspects(T, checks, (0,)), ())

    def test_both_kinds_right_and_wrong(self):
        seen = {("beside", True): 0, ("beside", False): 0, ("within", True): 0, ("within", False): 0}
        for web, checks, failed, _ in cases(95):
            for arrow in range(len(web.arrows)):
                found = False
                for thing in all_bars(checks):
                    expected = plainly_bar(web, checks, failed, arrow, thing)
                    self.assertIs(is_bar(web, checks, failed, arrow, thing), expected)
                    found = found or expected
                    if (thing[0], expected) in seen:
                        seen[(thing[0], expected)] += 1
                self.assertIs(bar(web, checks, failed, arrow) is None, not found)
        self.assertGreater(min(seen.values()), 50)

    def test_the_ends_may_be_the_same_or_lie_apart(self):
        # From 0 over two arrows each to 1, 2 and 3.
        web = Web(4, ((0, 1), (0, 1), (1, 2), (1, 2), (2, 3), (2, 3)))
        inner, outer = ((2,), (3,)), ((0, 2, 4), (0, 3, 4))
        ahead, behind = ((0, 2), (0, 3)), ((2, 4), (3, 4))
        for wide, narrow in ((outer, inner), (outer, ahead), (outer, behind), (ahead, inner), (behind, inner),
                             (outer, ((1, 2, 4), (1, 3, 4))), (inner, inner)):
            if wide != narrow:
                self.assertEqual(bar(web, [wide, narrow], (0,), 2), ("within", 0, 1))
                self.assertEqual(bar(web, [narrow, wide], (1,), 3), ("within", 1, 0))
                self.assertEqual(suspects(web, [wide, narrow], (0,)), ())
        for wide, narrow in ((inner, outer), (inner, ahead), (ahead, behind), (behind, ahead), (ahead, outer)):
            self.assertIsNone(bar(web, [wide, narrow], (0,), 2))
            self.assertEqual(suspects(web, [wide, narrow], (0,)), (2, 3))
        # From 1 to 2 is neither within what begins behind 1, nor within what ends ahead of 2.
        self.assertEqual(suspects(web, [((0,), (1,)), inner], (0,)), (0, 1))

    def test_no_bars(self):
        checks = [((0, 2), (1, 3)), *C]
        for thing in (*WRONG_TUPLES, ["beside", 0], ("beside",), ("within", 0), ("beside", 0, 0), ("within", 0, 1, 1),
                      (0, "beside"), ("within", 1, 0), ("within", 0, 0), ("beside", 1), ("beside", False),
                      ("within", False, 1), ("within", 0, True), ("within", 0, 3), ("within", -3, 1), ("beside", -3),
                      ("Beside", 0), (b"beside", 0), ("besides", 0), ("", 0), (("beside", 0),), ("beside", (0,)),
                      ("within", (0, 1)), ("within", 0, "1"), ("beside", None), ("beside", 10 ** 59), (0, 0)):
            self.assertIs(is_bar(T, checks, (0,), 0, thing), False)
        self.assertIs(is_bar(T, checks, (0,), 0, ("within", 0, 1)), True)
        for thing in (*WRONG_TUPLES, ["beside", 0], ("beside",), ("beside", False), ("within", 0), ("beside", [0])):
            self.assertIs(is_bar(T, C, (0,), 2, thing), False)
        for item in (*NO_NUMBERS_NO_TUPLES, *ODD_TUPLES, -1, 2, 10 ** 59):
            self.assertIs(is_bar(T, C, (0,), 2, ("beside", item)), False)
            self.assertIs(is_bar(T, checks, (0,), 0, ("within", 0, item)), False)
            self.assertIs(is_bar(T, checks, (0,), 0, ("within", item, 1)), False)
            self.assertIs(is_bar(T, C, (0,), 2, (item, 0)), False)


class SpoiledTest(unittest.TestCase):
    def test_the_same_table_and_another_one(self):
        world = ((1, 2), ((0,), (0,), (0,)))
        checks = [((0,), (1,)), ((1,), (2,))]
        self.assertIs(is_spoiled(H, checks, (), 0, (world, (0,))), True)
        self.assertIs(is_spoiled(H, checks, (), 0, (world, (1,))), False)
        self.assertIs(is_spoiled(H, checks, (0,), 0, (world, (1,))), True)
        self.assertIs(is_spoiled(H, checks, (0, 1), 0, (world, (1,))), False)
        self.assertIs(is_spoiled(H, checks, (0, 1), 1, (world, (1,))), True)
        self.assertIs(is_spoiled(H, checks, (1,), 2, (world, (1,))), True)
        self.assertIs(is_spoiled(H, checks, (1,), 2, (world, (0,))), False)
        # Another table that all things are led over alike.
        world = ((0, 2, 2), ((), (), (0, 1)))
        self.assertIs(is_spoiled(S, [((0, 2), (1, 2))], (), 2, (world, (1, 1))), True)
        self.assertIs(is_spoiled(S, [((0, 2), (1, 2))], (0,), 2, (world, (1, 1))), False)
        # In a world in which some two ways disagree already nothing counts.
        world = ((1, 2), ((0,), (0,), (1,)))
        self.assertIs(is_spoiled(H, [((0,), (1,))], (0,), 0, (world, (1,))), False)
        self.assertIs(is_spoiled(H, [], (), 0, (world, (0,))), False)

    def test_all_small_worlds_and_tables(self):
        chooser = random.Random(96)
        for web in (H, S, Web(3, ((0, 1), (1, 2), (0, 2)))):
            for checks in ([], some_checks(web, chooser, 2), plain_checks(web)):
                arrow = chooser.randrange(len(web.arrows))
                for world in all_worlds(web, 2):
                    for table in tables_of(web, world, arrow):
                        failed = plain_failed(web, with_table(world, arrow, table), checks)
                        for lot in {failed, (), failed[1:], tuple(range(len(checks)))}:
                            expected = plainly_spoiled(web, checks, lot, arrow, (world, table))
                            self.assertIs(is_spoiled(web, checks, lot, arrow, (world, table)), expected)

    def test_worlds_changed_and_shuffled(self):
        seen = {True: 0, False: 0}
        for web, checks, failed, chooser in cases(97, 100):
            for arrow in suspects(web, checks, failed)[:4]:
                world, table = spoiled(web, checks, failed, arrow)
                for _ in range(3):
                    other = changed_world(web, world, chooser)
                    begin, end = web.arrows[arrow]
                    item = chooser.randrange(len(table))
                    another = table[:item] + (chooser.randrange(world[0][end]),) + table[item + 1:]
                    for pair in ((other, table), (world, another)):
                        expected = plainly_spoiled(web, checks, failed, arrow, pair)
                        self.assertIs(is_spoiled(web, checks, failed, arrow, pair), expected)
                        seen[expected] += 1
        self.assertGreater(min(seen.values()), 50)

    def test_places_without_things(self):
        world = ((0, 2), ((), (), ()))
        self.assertIs(is_spoiled(H, [((0,), (1,))], (), 0, (world, ())), True)
        self.assertIs(is_spoiled(H, [((0,), (1,))], (0,), 0, (world, ())), False)
        self.assertIs(is_spoiled(H, [((0,), (1,))], (), 0, (world, (0,))), False)
        world = ((0, 0, 1, 0), ((), (), (), ()))
        for arrow in range(4):
            self.assertIs(is_spoiled(Web(4, ((0, 1), (0, 2), (1, 2), (3, 2))), [], (), arrow, (world, ())), True)
        # The place 0 has no things, so that it sees nothing of what is spoiled behind it.
        world = ((0, 1, 2), ((), (0,), (0,)))
        web = Web(3, ((0, 1), (1, 2), (1, 2)))
        checks = [((0, 1), (0, 2)), ((1,), (2,))]
        self.assertIs(is_spoiled(web, checks, (1,), 1, (world, (1,))), True)
        self.assertIs(is_spoiled(web, checks, (0, 1), 1, (world, (1,))), False)
        self.assertIs(is_spoiled(web, checks, (1,), 1, spoiled(web, checks, (1,), 1)), True)

    def test_no_pairs_of_a_world_and_a_table(self):
        world, table = ((1, 2), ((0,), (0,), (0,))), (1,)
        checks = [((0,), (1,))]
        self.assertIs(is_spoiled(H, checks, (0,), 0, (world, table)), True)
        for thing in (*WRONG_TUPLES, [world, table], (world,), (world, table, ()), (table, world), world,
                      (world, [1]), (world, ()), (world, (1, 1)), (world, (2,)), (world, (-1,)), (world, (True,)),
                      (world, ("1",)), (world, 1), (world, None), (world, ((1,),)), (list(world), table),
                      ((list(world[0]), world[1]), table), ((world[0], list(world[1])), table), (None, table),
                      (((True, 2), world[1]), table), ((world[0], ((0,), (0,), (2,))), table),
                      ((world[0], ((0,), (0,))), table), (((1, 2, 1), world[1]), table)):
            self.assertIs(is_spoiled(H, checks, (0,), 0, thing), False)
        for item in (*NO_NUMBERS_NO_TUPLES, *ODD_TUPLES, -1, 2, 10 ** 59):
            self.assertIs(is_spoiled(H, checks, (0,), 0, (world, item)), False)
            self.assertIs(is_spoiled(H, checks, (0,), 0, (item, table)), False)
            self.assertIs(is_spoiled(H, checks, (0,), 0, (world, (item,))), False)


class SeenTest(unittest.TestCase):
    def test_of_the_examples(self):
        self.assertEqual(unseen(D, []), (0, 1, 2, 3))
        self.assertEqual(unseen(D, ()), (0, 1, 2, 3))
        self.assertEqual(never_seen(S), (2,))
        self.assertEqual(unseen(T, C), ())
        self.assertEqual(unseen(T, C[:1]), (2, 3))
        self.assertEqual(unseen(S, [((0, 2), (1, 2))]), (2,))
        self.assertEqual(never_seen(Web(4, ((0, 1), (1, 2), (1, 2), (2, 3)))), (0, 3))

    def test_against_all_checks(self):
        chooser = random.Random(98)
        some = 0
        for web in some_webs(120, 6, 11):
            every = plain_checks(web)
            for checks in (every, some_checks(web, chooser, 4), some_checks(web, chooser, 2)):
                expected = tuple(arrow for arrow in range(len(web.arrows))
                                 if not any(just_one_has(check, arrow) for check in checks))
                self.assertEqual(unseen(web, checks), expected)
                self.assertIs(type(unseen(web, checks)), tuple)
            self.assertEqual(never_seen(web), unseen(web, every))
            self.assertEqual(unseen(web, further(web, [])), never_seen(web))
            self.assertEqual(unseen(web, list(least_list(web))), never_seen(web))
            some += len(never_seen(web)) > 0
        self.assertGreater(some, 30)

    def test_great_webs_and_webs_without_checks(self):
        self.assertEqual(never_seen(wide_web()), ())
        self.assertEqual(never_seen(double_row(59)), ())
        self.assertEqual(never_seen(cube(6)), ())
        self.assertEqual(never_seen(row_web(60)), tuple(range(59)))
        for web in (Web(1, ()), Web(60, ())):
            self.assertEqual(never_seen(web), ())
            self.assertEqual(unseen(web, []), ())


class NextCheckTest(unittest.TestCase):
    def plain_next(self, web, checks, failed, stock):
        found = []
        for number, check in enumerate(stock):
            longer = [*checks, check]
            lots = (failed, failed + (len(checks),))
            found.append((max(len(suspects(web, longer, lot)) for lot in lots), number))
        return min(found)[::-1] if found else None

    def test_of_the_examples(self):
        self.assertEqual(next_check(T, C[:1], (0,), C[1:]), (0, 3))
        # Both checks of the stock leave two suspects at worst: the first one is told.
        self.assertEqual(next_check(H, [], (), [((0,), (1,)), ((1,), (2,))]), (0, 3))
        checks = [((0,), (1,))]
        self.assertEqual(next_check(H, checks, (0,), [((1,), (2,)), ((0,), (2,))]), (0, 1))
        web = Web(2, ((0, 1),) * 4)
        self.assertEqual(next_check(web, checks, (0,), [((2,), (3,)), ((1,), (3,)), ((0,), (3,))]), (1, 1))

    def test_by_the_words(self):
        chooser = random.Random(99)
        seen = {}
        for web, checks, failed, _ in cases(100, 80, 6, 9, 3):
            left = [check for check in plain_checks(web) if check not in checks]
            for many in (1, 3, len(left)):
                stock = chooser.sample(left, min(many, len(left), 12))
                found = next_check(web, checks, failed, stock)
                self.assertEqual(found, self.plain_next(web, checks, failed, stock))
                self.assertEqual(next_check(web, tuple(checks), failed, tuple(stock)), found)
                if found is not None and failed:
                    seen[found[0]] = seen.get(found[0], 0) + 1
        self.assertGreater(len(seen), 3)

    def test_an_empty_stock(self):
        for stock in ([], ()):
            self.assertIsNone(next_check(T, C, (0,), stock))
            self.assertIsNone(next_check(T, [], (), stock))
            self.assertIsNone(next_check(Web(1, ()), [], (), stock))

    def test_when_no_suspect_is_left(self):
        checks = [((0,), (1,)), ((2,), (3,))]
        web = Web(2, ((0, 1),) * 4)
        self.assertEqual(suspects(web, checks, (0, 1)), ())
        self.assertEqual(next_check(web, checks, (0, 1), [((0,), (2,)), ((0,), (3,))]), (0, 0))

    def test_nothing_failed_as_yet(self):
        # If the check is passed, all arrows are left.
        self.assertEqual(next_check(T, [], (), C), (0, 5))
        self.assertEqual(next_check(T, C[:1], (), C[1:]), (0, 5))


class ErrorsTest(unittest.TestCase):
    OF_ARROWS = (bar, spoiled, lambda *things: is_bar(*things, ("beside", 0)),
                 lambda *things: is_spoiled(*things, None))

    def test_no_checks_first(self):
        for checks in NO_CHECKS:
            for failed in ((), None, (9,)):
                with self.assertRaises(NoChecks):
                    suspects(T, checks, failed)
                for call in self.OF_ARROWS:
                    for arrow in (0, None):
                        with self.assertRaises(NoChecks):
                            call(T, checks, failed, arrow)
                for stock in ([], None):
                    with self.assertRaises(NoChecks):
                        next_check(T, checks, failed, stock)
            with self.assertRaises(NoChecks):
                unseen(T, checks)

    def test_no_failed_next(self):
        for failed in NO_FAILED:
            with self.assertRaises(NoFailed):
                suspects(T, C, failed)
            for call in self.OF_ARROWS:
                for arrow in (0, None, 5):
                    with self.assertRaises(NoFailed):
                        call(T, C, failed, arrow)
            for stock in ([], None, [None], C):
                with self.assertRaises(NoFailed):
                    next_check(T, C, failed, stock)
        for failed in ((0,), [], None):
            with self.assertRaises(NoFailed):
                suspects(T, [], failed)

    def test_no_arrow_last(self):
        for arrow in (*WRONG_NUMBERS, 5, -1, (2,)):
            for call in self.OF_ARROWS:
                with self.assertRaises(NoArrow):
                    call(T, C, (0,), arrow)
        for call in self.OF_ARROWS:
            with self.assertRaises(NoArrow):
                call(Web(1, ()), [], (), 0)

    def test_no_stock(self):
        for stock in (*NO_CHECKS, [C[0]], (C[1], C[0]), [((0, 2), (1, 3)), C[1]], [((0, 2), (1, 3))] * 2):
            with self.assertRaises(NoChecks):
                next_check(T, C, (0,), stock)
        for stock in (*NO_NUMBERS_NO_TUPLES, *ODD_TUPLES):
            if not isinstance(stock, (list, tuple)) or len(stock) > 0:
                with self.assertRaises(NoChecks):
                    next_check(T, C, (0,), stock)

    def test_nothing_is_changed(self):
        checks, stock = [C[0]], [C[1]]
        suspects(T, checks, (0,))
        spoiled(T, checks, (0,), 0)
        next_check(T, checks, (0,), stock)
        unseen(T, checks)
        self.assertEqual((checks, stock), (C[:1], C[1:]))


if __name__ == "__main__":
    unittest.main()
