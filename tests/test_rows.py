"""Point [6]: ROWS and LOTS."""

import unittest

from lateplans.errors import NoWork
from lateplans.plans import Plan, behind, beside, only, turned
from lateplans.rows import (
    great_lots, great_rows, heights, is_lot, is_parting_in_lots, is_parting_in_rows, is_row, longest, lots_over,
    rows_over, width,
)
from tests.asserts import Case, shown
from tests.oracle import (
    THINGS, closure, every_plan, great, lots, nested, partings_of, rows, some_plans, spoiled, subsets,
)

SMALL = every_plan(0) + every_plan(1) + every_plan(2) + every_plan(3)
LARGE = some_plans(4)
LINE = Plan(tuple("abcdefghij"), tuple(zip("abcdefghi", "bcdefghij")))
LOOSE = Plan(tuple("abcdefghij"))


class Sets(Case):
    def test_is_row_and_is_lot(self):
        for plan in SMALL + LARGE[::3]:
            told_rows, told_lots = set(rows(plan)), set(lots(plan))
            for some in subsets(plan.works):
                self.same(is_row(plan, some), some in told_rows)
                self.same(is_lot(plan, some), some in told_lots)

    def test_nothing_and_single_works(self):
        for plan in SMALL + LARGE:
            self.same((self.asked(is_row, plan, ()), self.asked(is_lot, plan, ())), (True, True))
            for name in plan.works:
                self.same((self.asked(is_row, plan, (name,)), self.asked(is_lot, plan, (name,))), (True, True))

    def test_asked_in_other_ways(self):
        for plan in LARGE:
            self.same(self.asked(is_row, plan, plan.works), plan.works in rows(plan))
            self.same(self.asked(is_lot, plan, plan.works), plan.works in lots(plan))

    def test_no_work(self):
        plan = Plan.of("b c d; b c")
        for call in (is_row, is_lot, rows_over, lots_over):
            for some, name in (
                (("a",), "a"), (("a", "z"), "a"), (("b", "c", "d", "z"), "z"), (("b", "bb", "zz"), "bb"),
            ):
                self.denied(NoWork, {"name": name}, call, plan, some)
            self.denied(NoWork, {"name": "a"}, call, Plan(()), ("a", "b"))
        for call in (is_parting_in_rows, is_parting_in_lots):
            for thing in THINGS + [(("b",),), (("b", "z"),)]:
                self.denied(NoWork, {"name": "q"}, call, plan, ("b", "q", "z"), thing)


class Great(Case):
    def test_great_rows_and_lots(self):
        for plan in SMALL + every_plan(4)[::5] + LARGE:
            self.same(self.asked(great_rows, plan), great(rows(plan)))
            self.same(self.asked(great_lots, plan), great(lots(plan)))

    def test_no_works_and_one(self):
        self.same((great_rows(Plan(())), great_lots(Plan(()))), ([()], [()]))
        self.same((great_rows(Plan.of("a")), great_lots(Plan.of("a"))), ([("a",)], [("a",)]))

    def test_all_in_a_row_and_all_side_by_side(self):
        single = [(name,) for name in LINE.works]
        self.same((great_rows(LINE), great_lots(LINE)), ([LINE.works], single))
        self.same((great_rows(LOOSE), great_lots(LOOSE)), (single, [LOOSE.works]))

    def test_as_many_as_can_be(self):
        layers = behind(behind(Plan.of("a b c"), Plan.of("d e f g")), Plan.of("h i j"))
        self.same((len(great_rows(layers)), len(great_lots(layers))), (36, 3))
        lines = beside(beside(Plan.of("a b c; a b; b c"), Plan.of("d e f; d e; e f")), Plan.of("g h i; g h; h i"))
        self.same((len(great_rows(lines)), len(great_lots(lines))), (3, 27))

    def test_returned_lists_are_the_callers(self):
        for call in (great_rows, great_lots):
            found = call(LINE)
            told = list(found)
            found.clear()
            self.same(call(LINE), told)

    def test_longest_and_width(self):
        for plan in SMALL + LARGE:
            self.same(self.asked(longest, plan), max(len(some) for some in rows(plan)))
            self.same(self.asked(width, plan), max(len(some) for some in lots(plan)))
        self.same((longest(Plan(())), width(Plan(()))), (0, 0))
        self.same((longest(LINE), width(LINE), longest(LOOSE), width(LOOSE)), (10, 1, 1, 10))

    def test_heights(self):
        for plan in SMALL + LARGE:
            waits = closure(plan.pairs)
            told = tuple(
                max(len(row) for row in rows(plan) if name in row
                    and all(one == name or (one, name) in waits for one in row))
                for name in plan.works
            )
            self.same(self.asked(heights, plan), told)
        self.same((heights(Plan(())), heights(LINE), heights(LOOSE)), ((), tuple(range(1, 11)), (1,) * 10))
        self.same(heights(turned(LINE)), tuple(range(10, 0, -1)))


class Partings(Case):
    def check(self, plan, some, few_rows, few_lots):
        for call, kind, test, few in (
            (rows_over, rows(plan), is_parting_in_rows, few_rows), (lots_over, lots(plan), is_parting_in_lots, few_lots),
        ):
            found = self.asked(call, plan, some)
            self.same(found, tuple(sorted(found)))
            self.assertEqual(sorted(name for part in found for name in part), list(some))
            self.assertTrue(all(part and part in kind for part in found))
            self.assertTrue(all(type(part) is tuple for part in found))
            self.assertEqual(len(found), few)
            self.same(self.asked(test, plan, some, found), True)

    def test_as_few_as_can_be_of_all_partings(self):
        for plan in SMALL + every_plan(4)[::7]:
            told_rows, told_lots = set(rows(plan)), set(lots(plan))
            for some in subsets(plan.works):
                offers = partings_of(some)
                few_rows = min(len(parting) for parting in offers if told_rows.issuperset(parting))
                few_lots = min(len(parting) for parting in offers if told_lots.issuperset(parting))
                self.check(plan, some, few_rows, few_lots)

    def test_as_many_as_the_greatest_set_of_the_other_kind(self):
        for plan in LARGE:
            for some in list(subsets(plan.works))[::37] + [plan.works]:
                few_rows = max(len(lot) for lot in lots(plan) if set(lot) <= set(some))
                few_lots = max(len(row) for row in rows(plan) if set(row) <= set(some))
                self.check(plan, some, few_rows, few_lots)

    def test_those_of_some_works_alone(self):
        for plan in LARGE[::2]:
            some = plan.works[1::2]
            self.same(len(rows_over(only(plan, some), some)), len(rows_over(plan, some)))
            self.same(len(lots_over(only(plan, some), some)), len(lots_over(plan, some)))

    def test_edges(self):
        for plan in (Plan(()), LINE, LOOSE):
            self.same((rows_over(plan, ()), lots_over(plan, ())), ((), ()))
        single = tuple((name,) for name in LINE.works)
        self.same((rows_over(LINE, LINE.works), lots_over(LINE, LINE.works)), ((LINE.works,), single))
        self.same((rows_over(LOOSE, LOOSE.works), lots_over(LOOSE, LOOSE.works)), (single, (LOOSE.works,)))

    def test_rows_need_not_follow_straight(self):
        plan = Plan.of("a b c d; a b; b c; d b")
        self.same(len(rows_over(plan, plan.works)), 2)
        self.same(rows_over(plan, ("a", "c")), (("a", "c"),))

    def test_is_parting(self):
        for plan in SMALL[::2] + every_plan(4)[::40]:
            told_rows, told_lots = set(rows(plan)), set(lots(plan))
            for some in subsets(plan.works):
                offers = partings_of(some)
                for kind, test in ((told_rows, is_parting_in_rows), (told_lots, is_parting_in_lots)):
                    right = {shown(parting) for parting in offers if kind.issuperset(parting)}
                    for parting in offers:
                        self.same(test(plan, some, parting), shown(parting) in right)
                    for thing in spoiled(offers[-1]) + spoiled(offers[0]):
                        self.same(test(plan, some, thing), shown(thing) in right)

    def test_any_thing(self):
        for plan, some in ((Plan(()), ()), (Plan.of("a"), ("a",)), (Plan.of("a"), ()), (Plan.of("a b; b a"), ("a", "b"))):
            for test, kind in ((is_parting_in_rows, rows(plan)), (is_parting_in_lots, lots(plan))):
                right = {shown(parting) for parting in partings_of(some) if set(kind).issuperset(parting)}
                for thing in THINGS + [((),), ((), ("a",)), (("a",), ("a",)), (("a",), ("b",), ()), (("a", "b"),)]:
                    self.same(self.asked(test, plan, some, thing), shown(thing) in right)

    def test_no_parting(self):
        plan = Plan.of("a b c; a b; b c")
        some = ("a", "b", "c")
        self.same(is_parting_in_rows(plan, some, (("a", "b"), ("c",))), True)
        for thing in (
            (("c",), ("a", "b")), (("b", "a"), ("c",)), [("a", "b"), ("c",)], (["a", "b"], ("c",)), (("a", "b"),),
            (("a", "b"), ("b", "c")), (("a", "b"), ("c",), ("c",)), (("a", "b"), ("c",), ("d",)), ("ab", "c"),
            (("a", "b"), "c"), ("a", "b", "c"), ((), ("a", "b"), ("c",)), (("a", "b"), ("c", "c")),
            nested(10, (("a", "b"), ("c",))), (("a", "b", "c"),) * 200,
        ):
            self.same(is_parting_in_rows(plan, some, thing), False)
        self.same(is_parting_in_rows(plan, ("a", "b"), (("a", "b"), ("c",))), False)
        self.same(is_parting_in_lots(plan, some, (("a", "b"), ("c",))), False)


if __name__ == "__main__":
    unittest.main()
