"""Point [11]: Plans joined."""

import itertools
import unittest

from lateplans.alike import alike, never_longer
from lateplans.errors import Known, NoWork, OtherWorks
from lateplans.factor import factor
from lateplans.joins import common_waits, most_with, put_into, together
from lateplans.plans import Plan, all_waits, behind, beside, only, turned
from tests.asserts import Case
from tests.oracle import (
    closure, every_plan, goes_round, lots, rows, some_durations, some_plans, time_by_rows, two_plans,
)

SMALL = [pair for many in (0, 1, 2, 3) for pair in itertools.product(every_plan(many), repeat=2)]
FOURS = list(zip(every_plan(4)[::3], every_plan(4)[::-2]))
LARGE = two_plans(3)
LINE = Plan(tuple("abcdefghij"), tuple(zip("abcdefghi", "bcdefghij")))
LOOSE = Plan(tuple("abcdefghij"))
INNERS = [
    Plan(()), Plan.of("x"), Plan.of("aa"), Plan.of("x y; y x"), Plan.of("bb x y; x bb"), Plan.of("x y z; x y; y z"),
    Plan.of("w x y z; w x; y x; y z"),
]


def put(plan, work, inner):
    """The waits of the Plan with inner in the place of work, straight from the words."""
    waits = set(closure(inner.pairs))
    for one, other in closure(plan.pairs):
        firsts = inner.works if one == work else (one,)
        lasts = inner.works if other == work else (other,)
        waits |= set(itertools.product(firsts, lasts))
    return waits


class PutInto(Case):
    def test_put_into(self):
        plans = every_plan(1) + every_plan(2) + every_plan(3) + every_plan(4)[::20] + some_plans(2, sizes=(5, 6))
        for plan in plans:
            for inner in INNERS:
                for work in plan.works:
                    found = self.asked(put_into, plan, work, inner)
                    works = tuple(sorted(set(plan.works) - {work} | set(inner.works)))
                    waits = put(plan, work, inner)
                    self.same((found.works, found.pairs), (works, tuple(sorted(waits))))
                    self.same(all_waits(found), found.pairs)

    def test_ten_works_together(self):
        found = put_into(LINE, "e", Plan.of("e"))
        self.same((found.works, found.pairs), (LINE.works, all_waits(LINE)))
        found = put_into(Plan.of("a"), "a", LINE)
        self.same((found.works, found.pairs), (LINE.works, all_waits(LINE)))
        five, six = Plan(tuple("abcde"), tuple(zip("abcd", "bcde"))), Plan(tuple("cfghij"), tuple(zip("cfghi", "fghij")))
        self.same(len(put_into(five, "c", six)), 10)
        self.same(len(all_waits(put_into(five, "c", six))), 45)

    def test_a_plan_without_works(self):
        self.same(put_into(Plan.of("a"), "a", Plan(())).text, "-")
        self.same(put_into(Plan.of("a b c; a b; b c"), "b", Plan(())).text, "a c; a c")
        self.same(put_into(Plan.of("a b c; a b; b c"), "a", Plan(())).text, "b c; b c")

    def test_the_same_name_may_come_back(self):
        plan = Plan.of("a b; a b")
        self.same(put_into(plan, "a", Plan.of("a")).text, plan.text)
        self.same(put_into(plan, "a", Plan.of("a c; c a")).text, "a b c; a b; c a; c b")

    def test_errors(self):
        plan = Plan.of("b c d e; b c; c d")
        for name in ("a", "z", "bb"):
            for inner in INNERS + [plan, Plan.of("c")]:
                self.denied(NoWork, {"name": name}, put_into, plan, name, inner)
        self.denied(NoWork, {"name": "a"}, put_into, Plan(()), "a", Plan(()))
        self.denied(Known, {"name": "c"}, put_into, plan, "b", Plan.of("a b c e"))
        self.denied(Known, {"name": "b"}, put_into, plan, "c", plan)
        self.denied(Known, {"name": "e"}, put_into, plan, "c", Plan.of("a c e z"))

    def test_nothing_is_changed(self):
        plan, inner = Plan.of("a b; a b"), Plan.of("x y; y x")
        put_into(plan, "a", inner)
        self.same((plan.text, inner.text), ("a b; a b", "x y; y x"))


class MostWith(Case):
    def test_most_with(self):
        for one, other in SMALL + FOURS + LARGE:
            more = set(lots(other))
            sets = [some for some in rows(one) if some in more]
            for work in one.works:
                told = max(len(some) for some in sets if work in some)
                self.same(self.asked(most_with, one, other, work), told)
            self.assertEqual(factor(one, other), max([most_with(one, other, work) for work in one.works] + [0]))

    def test_edges(self):
        self.same((most_with(LINE, LOOSE, "e"), most_with(LOOSE, LINE, "e"), most_with(LINE, LINE, "a")), (10, 1, 1))

    def test_errors(self):
        one, other = Plan.of("a b; a b"), Plan.of("a b")
        for work in ("", "z", "aa"):
            self.denied(NoWork, {"name": work}, most_with, one, other, work)
        self.denied(NoWork, {"name": "a"}, most_with, Plan(()), Plan(()), "a")
        for more in (Plan(()), Plan.of("a"), Plan.of("a c"), Plan.of("a b c")):
            for work in ("a", "z"):
                self.denied(OtherWorks, {}, most_with, one, more, work)
                self.denied(OtherWorks, {}, most_with, more, one, work)

    def test_factor_of_plans_put_into_others(self):
        inners = [pair for pair in INNERS if len(pair) < 4]
        for one, other in SMALL[1::5] + FOURS[::15] + two_plans(1, sizes=(5, 6)):
            for first, second in [(x, y) for x in inners for y in inners if x.works == y.works] + [
                (Plan.of("x y z; x y; y z"), Plan.of("x y z; z y")), (Plan.of("x y z"), Plan.of("x y z; x z"))
            ]:
                for work in one.works[:2]:
                    rest = tuple(name for name in one.works if name != work)
                    told = factor(only(one, rest), only(other, rest))
                    if first.works:
                        told = max(told, most_with(one, other, work) - 1 + factor(first, second))
                    self.same(factor(put_into(one, work, first), put_into(other, work, second)), told)


class Both(Case):
    def test_together(self):
        for one, other in SMALL + FOURS + LARGE:
            found = self.asked(together, one, other)
            pairs = one.pairs + other.pairs
            if goes_round(pairs):
                self.same(found, None)
            else:
                self.same((found.works, found.pairs), (one.works, tuple(sorted(set(pairs)))))
                self.same((never_longer(one, found), never_longer(other, found)), (True, True))

    def test_common_waits(self):
        for one, other in SMALL + FOURS + LARGE:
            found = self.asked(common_waits, one, other)
            waits = closure(one.pairs) & closure(other.pairs)
            self.same((found.works, found.pairs), (one.works, tuple(sorted(waits))))
            self.same(all_waits(found), found.pairs)
            self.same((never_longer(found, one), never_longer(found, other)), (True, True))

    def test_times(self):
        for one, other in LARGE[::2]:
            for durations in some_durations(one, 4):
                times = (time_by_rows(one, durations), time_by_rows(other, durations))
                self.assertLessEqual(time_by_rows(common_waits(one, other), durations), min(times))
                whole = together(one, other)
                if whole is not None:
                    self.assertGreaterEqual(time_by_rows(whole, durations), max(times))

    def test_edges(self):
        none = Plan(())
        self.same((together(none, none).text, common_waits(none, none).text), ("-", "-"))
        self.same((together(LINE, turned(LINE)), common_waits(LINE, turned(LINE)).pairs), (None, ()))
        self.same((together(LINE, LOOSE).pairs, common_waits(LINE, LINE).pairs), (LINE.pairs, all_waits(LINE)))

    def test_other_works(self):
        for one, other in ((Plan(()), Plan.of("a")), (Plan.of("a b; a b"), Plan.of("a c")), (LINE, Plan.of("a b"))):
            for call in (together, common_waits):
                self.denied(OtherWorks, {}, call, one, other)
                self.denied(OtherWorks, {}, call, other, one)

    def test_a_round_through_both(self):
        self.same(together(Plan.of("a b c; a b"), Plan.of("a b c; b c; c a")), None)
        self.same(together(Plan.of("a b c; a b"), Plan.of("a b c; b c")).text, "a b c; a b; b c")


class Kept(Case):
    def test_put_into_keeps_alike_plans_alike(self):
        for plan in some_plans(2, sizes=(4, 5)):
            for inner in INNERS[1:]:
                found = put_into(plan, plan.works[1], inner)
                self.same(alike(found, put_into(turned(plan), plan.works[1], turned(inner))), True)

    def test_put_into_two_works(self):
        one, other = Plan.of("m n o; m n; n o"), Plan.of("x y; x y")
        for join, text in ((beside, "a b"), (behind, "a b; a b")):
            found = put_into(put_into(Plan.of(text), "a", one), "b", other)
            self.same(all_waits(found), all_waits(join(one, other)))


if __name__ == "__main__":
    unittest.main()
