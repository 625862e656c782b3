"""Point [10]: whenever, and surely."""

import itertools
import unittest

from lateplans.errors import NoWork
from lateplans.plans import Plan, behind, beside, turned
from lateplans.whenever import (
    always_critical, always_with, apart_rows, fewest_guards, is_apart_rows, is_fewest_guards, is_off_durations,
    is_row_past, off_durations, one_surely, row_past, twins,
)
from tests.asserts import Case, shown
from tests.oracle import (
    THINGS, bits_durations, every_plan, great, longest_rows, mates, nested, rows, some_durations, some_plans, spoiled,
    subsets,
)

SMALL = every_plan(0) + every_plan(1) + every_plan(2) + every_plan(3)
FOURS = every_plan(4)[::11]
LARGE = some_plans(4)
LINE = Plan(tuple("abcdefghij"), tuple(zip("abcdefghi", "bcdefghij")))
LOOSE = Plan(tuple("abcdefghij"))
LAYERS = behind(behind(Plan.of("a b c"), Plan.of("d e f g")), Plan.of("h i j"))


def critical_by(plan, durations):
    return {name for row in longest_rows(plan, durations) for name in row}


def always(plan, one, other):
    """By the guarantee of the document."""
    pairs = mates(plan)
    with_other = {name for name in plan.works if (name, other) in pairs}
    with_one = {name for name in plan.works if (name, one) in pairs}
    return one == other or ((one, other) in pairs and with_other - {one} <= with_one)


def fewest(plan):
    """All sets of as few works as can be that have one of each great ROW."""
    offers = great(rows(plan))
    met = [some for some in subsets(plan.works) if all(set(some) & set(row) for row in offers)]
    return [some for some in met if len(some) == len(met[0])]


def most_apart(plan):
    """All tuples of as many great ROWS without common works as can be."""
    offers, found = [row for row in great(rows(plan)) if row], [[()]]
    while found[-1]:
        found.append([
            some + (row,) for some in found[-1] for row in offers
            if some[-1:] < (row,) and not set(row) & set(sum(some, ()))
        ])
    return found[-2]


class Whenever(Case):
    def test_by_all_durations_of_0_and_1(self):
        for plan in SMALL + FOURS:
            sets = [critical_by(plan, durations) for durations in bits_durations(plan)]
            sets += [critical_by(plan, durations) for durations in itertools.product((1, 2), repeat=len(plan))]
            sets += [critical_by(plan, durations) for durations in some_durations(plan, 5)]
            for one, other in itertools.product(plan.works, repeat=2):
                told = all(one in some for some in sets if other in some)
                self.same(self.asked(always_with, plan, one, other), told)
            told = tuple(name for name in plan.works if all(name in some for some in sets))
            self.same(self.asked(always_critical, plan), told)

    def test_always_with(self):
        for plan in SMALL + LARGE:
            for one, other in itertools.product(plan.works, repeat=2):
                told = always(plan, one, other)
                self.same(always_with(plan, one, other), told)
                found = self.asked(off_durations, plan, one, other)
                if told:
                    self.same(found, None)
                else:
                    self.assertTrue(len(found) == len(plan) and all(type(lasts) is int and lasts >= 0 for lasts in found))
                    self.assertIs(type(found), tuple)
                    some = critical_by(plan, found)
                    self.assertTrue(other in some and one not in some)
                    self.same(self.asked(is_off_durations, plan, one, other, found), True)

    def test_always_critical(self):
        for plan in SMALL + LARGE:
            pairs = mates(plan)
            told = tuple(
                name for name in plan.works if all(other == name or (name, other) in pairs for other in plan.works)
            )
            self.same(self.asked(always_critical, plan), told)
        self.same((always_critical(Plan(())), always_critical(LINE), always_critical(LOOSE)), ((), LINE.works, ()))
        self.same(always_critical(Plan.of("a")), ("a",))

    def test_twins(self):
        for plan in SMALL + LARGE:
            told = {
                tuple(other for other in plan.works if always(plan, name, other) and always(plan, other, name))
                for name in plan.works
            }
            self.same(self.asked(twins, plan), tuple(sorted(told)))
        self.same((twins(Plan(())), twins(LINE)), ((), (LINE.works,)))
        self.same(twins(LOOSE), tuple((name,) for name in LOOSE.works))
        self.same(twins(LAYERS), tuple((name,) for name in LAYERS.works))

    def test_is_off_durations(self):
        for plan in SMALL + FOURS[::5]:
            for durations in bits_durations(plan) + some_durations(plan, 3):
                some = critical_by(plan, durations)
                for one, other in itertools.product(plan.works, repeat=2):
                    self.same(is_off_durations(plan, one, other, durations), other in some and one not in some)

    def test_is_off_durations_any_thing(self):
        plan = Plan.of("a b; a b")
        for thing in THINGS + spoiled((1, 0)):
            self.same(self.asked(is_off_durations, plan, "a", "b", thing), False)
        plan = Plan.of("a b")
        for thing in THINGS + spoiled((0, 1)) + spoiled((10 ** 60, 10 ** 60 + 1)) + [(-1, 0), (2, 3, 4), nested(11, (0, 1))]:
            right = (
                type(thing) is tuple and len(thing) == 2 and all(type(lasts) is int and lasts >= 0 for lasts in thing)
                and thing[1] > thing[0]
            )
            self.same(self.asked(is_off_durations, plan, "a", "b", thing), right)

    def test_turned_about(self):
        for plan in LARGE:
            back = turned(plan)
            self.same((always_critical(back), twins(back)), (always_critical(plan), twins(plan)))
            self.same(len(fewest_guards(back)), len(fewest_guards(plan)))

    def test_no_work(self):
        plan = Plan.of("b c d; b c")
        for one, other, name in (("a", "b", "a"), ("b", "z", "z"), ("z", "a", "z"), ("a", "z", "a"), ("bb", "bb", "bb")):
            self.denied(NoWork, {"name": name}, always_with, plan, one, other)
            self.denied(NoWork, {"name": name}, off_durations, plan, one, other)
            for thing in THINGS + [(1, 0, 0)]:
                self.refused(NoWork, {"name": name}, is_off_durations, plan, one, other, thing)
        for some, name in ((("a",), "a"), (("b", "x", "z"), "x"), (("b", "c", "d", "e"), "e")):
            self.denied(NoWork, {"name": name}, one_surely, plan, some)
            self.denied(NoWork, {"name": name}, row_past, plan, some)
            for thing in THINGS + [("d",)]:
                self.denied(NoWork, {"name": name}, is_row_past, plan, some, thing)
        self.denied(NoWork, {"name": "a"}, row_past, Plan(()), ("a",))


class Surely(Case):
    def test_by_all_durations_of_0_and_1(self):
        for plan in SMALL + FOURS[::4]:
            sets = [critical_by(plan, durations) for durations in bits_durations(plan)]
            for some in subsets(plan.works):
                told = all(set(some) & named for named in sets)
                self.same(self.asked(one_surely, plan, some), told)

    def test_row_past(self):
        for plan in SMALL + LARGE:
            offers = great(rows(plan))
            for some in list(subsets(plan.works))[::1 if len(plan) < 5 else 37]:
                past = [row for row in offers if not set(row) & set(some)]
                found = self.asked(row_past, plan, some)
                self.same(self.asked(one_surely, plan, some), not past)
                self.assertTrue(found in past if past else found is None)
                for row in offers + rows(plan)[::5]:
                    self.same(is_row_past(plan, some, row), row in past)

    def test_edges(self):
        none = Plan(())
        self.same((one_surely(none, ()), row_past(none, ()), is_row_past(none, (), ())), (False, (), True))
        self.same((one_surely(LINE, ("e",)), one_surely(LINE, ()), row_past(LINE, ())), (True, False, LINE.works))
        self.same((one_surely(LOOSE, LOOSE.works), row_past(LOOSE, LOOSE.works[1:])), (True, ("a",)))

    def test_is_row_past_any_thing(self):
        for plan, some in ((Plan(()), ()), (Plan.of("a"), ()), (Plan.of("a"), ("a",)), (Plan.of("a b c; a b"), ("c",))):
            told = {shown(row) for row in great(rows(plan)) if not set(row) & set(some)}
            for thing in THINGS + spoiled(("a", "b")) + [("b", "a"), nested(11, ("a", "b"))]:
                self.same(self.asked(is_row_past, plan, some, thing), shown(thing) in told)


class Guards(Case):
    def test_fewest_guards(self):
        for plan in SMALL[1:] + FOURS + LARGE:
            told = fewest(plan)
            found = self.asked(fewest_guards, plan)
            self.assertIn(found, told)
            self.assertIs(type(found), tuple)
            self.same(self.asked(is_fewest_guards, plan, found), True)
            self.assertEqual(len(found), len(apart_rows(plan)))
            if len(plan) < 8:
                for some in subsets(plan.works):
                    self.same(is_fewest_guards(plan, some), some in told)

    def test_no_works(self):
        self.same((fewest_guards(Plan(())), apart_rows(Plan(()))), (None, ()))
        for thing in THINGS + [()]:
            self.same(is_fewest_guards(Plan(()), thing), False)
        self.same((is_apart_rows(Plan(()), ()), is_apart_rows(Plan(()), ((),)), is_apart_rows(Plan(()), [])), (True, False, False))

    def test_edges(self):
        self.same((len(fewest_guards(LINE)), fewest_guards(LOOSE), fewest_guards(Plan.of("a"))), (1, LOOSE.works, ("a",)))
        self.same((apart_rows(LINE), apart_rows(LOOSE)), ((LINE.works,), tuple((name,) for name in LOOSE.works)))
        self.same((len(fewest_guards(LAYERS)), len(apart_rows(LAYERS))), (3, 3))
        lines = beside(beside(Plan.of("a b c; a b; b c"), Plan.of("d e f; d e; e f")), Plan.of("g h i; g h; h i"))
        self.same((len(fewest_guards(lines)), len(apart_rows(lines))), (3, 3))

    def test_apart_rows(self):
        for plan in SMALL + FOURS + LARGE:
            told = {shown(some) for some in most_apart(plan)}
            found = self.asked(apart_rows, plan)
            self.assertIn(shown(found), told)
            self.same(self.asked(is_apart_rows, plan, found), True)
            offers = great(rows(plan))
            for thing in [tuple(offers), (offers[0],), offers, (), found[::-1], found[1:], found + found]:
                self.same(is_apart_rows(plan, thing), shown(thing) in told)

    def test_is_apart_rows(self):
        for plan in SMALL[1:] + FOURS[::5] + LARGE[:4]:
            told = most_apart(plan)
            right = {shown(some) for some in told}
            for some in told:
                self.same(is_apart_rows(plan, some), True)
            for thing in spoiled(told[0]) + THINGS:
                self.same(self.asked(is_apart_rows, plan, thing), shown(thing) in right)

    def test_is_fewest_guards_any_thing(self):
        for plan in (Plan.of("a"), Plan.of("a b; a b"), Plan.of("a b"), Plan.of("a b c; a b")):
            right = {shown(some) for some in fewest(plan)}
            for thing in THINGS + spoiled(("a", "b")) + spoiled(("a",)) + [("b",), ("a", "c"), nested(11, ("a",))]:
                self.same(self.asked(is_fewest_guards, plan, thing), shown(thing) in right)

    def test_rows_that_cross(self):
        plan = Plan(tuple("abcdefghij"), [(x, y) for x in "abcde" for y in "fghij" if (ord(x) + ord(y)) % 3])
        self.assertIn(fewest_guards(plan), fewest(plan))
        self.assertIn(apart_rows(plan), most_apart(plan))


if __name__ == "__main__":
    unittest.main()
