"""Points [1], [3] and [11]: what holds for Plans put together, turned about, cut down, with a pair more.

And what the points from [14] on tell beside what those ahead of them tell.
"""

import itertools
import unittest

from lateplans.alike import alike, how_many_alike, never_longer
from lateplans.bounded import most_late
from lateplans.changes import Watch
from lateplans.counts import first_place, how_many_orders, is_order, nth_order
from lateplans.errors import BadPair
from lateplans.factor import factor
from lateplans.hands import begins_by, hands_needed, time_by
from lateplans.plans import Plan, all_waits, behind, beside, only, plain_plan, turned, waits_for, with_pair
from lateplans.ranks import Table
from lateplans.rows import great_lots, great_rows, longest, width
from lateplans.times import critical, most_at_once, slacks
from tests.asserts import Case
from tests.oracle import every_plan, goes_round, some_durations, some_plans, time_by_rows, two_plans

LARGE = two_plans(3)


def moved(plan, names):
    """The same Plan of other works."""
    news = dict(zip(plan.works, names))
    return Plan(tuple(names[:len(plan)]), tuple((news[one], news[other]) for one, other in plan.pairs))


def four_plans():
    """Two Plans of the same works, and two of the same other works."""
    small = [pair for many in (0, 1, 2, 3) for pair in list(itertools.product(every_plan(many), repeat=2))[::7]]
    more = small[::-1] + two_plans(2, sizes=(4, 5))
    for (one, other), (first, second) in zip(small + two_plans(2, sizes=(4, 5), seed=41), more):
        yield one, other, moved(first, "uvwxyz"), moved(second, "uvwxyz")


class Joined(Case):
    def test_factors_of_plans_put_together(self):
        for one, other, first, second in four_plans():
            apart = (factor(one, other), factor(first, second))
            self.same(factor(behind(one, first), behind(other, second)), max(apart))
            self.same(factor(beside(one, first), beside(other, second)), max(apart))
            self.same(factor(beside(one, first), behind(other, second)), max(apart))
            self.same(factor(behind(one, first), beside(other, second)), sum(apart))

    def test_rows_and_lots_of_plans_put_together(self):
        for one, _, first, _ in four_plans():
            row, side = behind(one, first), beside(one, first)
            self.same((longest(row), width(row)), (longest(one) + longest(first), max(width(one), width(first))))
            self.same((longest(side), width(side)), (max(longest(one), longest(first)), width(one) + width(first)))
            self.same(len(great_rows(row)), len(great_rows(one)) * len(great_rows(first)))
            self.same(len(great_lots(side)), len(great_lots(one)) * len(great_lots(first)))
            self.same(how_many_alike(side), how_many_alike(one) * how_many_alike(first))

    def test_three_plans(self):
        for one, other, third in zip(some_plans(3), some_plans(3, seed=51), some_plans(3, seed=52)):
            self.assertLessEqual(factor(one, third), factor(one, other) * factor(other, third))


class Changed(Case):
    def test_turned_about(self):
        for one, other in LARGE:
            self.same((factor(turned(one), turned(other)), alike(one, turned(one))), (factor(one, other), True))
            self.same((great_rows(turned(one)), great_lots(turned(one))), (great_rows(one), great_lots(one)))
            self.same(how_many_alike(turned(one)), how_many_alike(one))

    def test_without_needless_pairs(self):
        for one, other in LARGE:
            self.same((factor(plain_plan(one), other), alike(plain_plan(one), one)), (factor(one, other), True))

    def test_some_works_alone(self):
        for one, other in LARGE:
            for some in (one.works[::2], one.works[1:], one.works[:3], ()):
                alone, more = only(one, some), only(other, some)
                self.assertLessEqual(factor(alone, more), factor(one, other))
                if never_longer(one, other):
                    self.same(never_longer(alone, more), True)
                limits = ((0,) * len(some), (1,) * len(some))
                within = tuple(int(name in some) for name in one.works)
                self.same(most_late(alone, more, limits), most_late(one, other, ((0,) * len(one), within)))

    def test_with_a_pair_more(self):
        for one, other in LARGE:
            many = factor(one, other)
            for first, second in list(itertools.permutations(one.works, 2))[::3]:
                if not goes_round(one.pairs + ((first, second),)):
                    more = with_pair(one, first, second)
                    self.same(never_longer(one, more), True)
                    self.assertTrue(many <= factor(more, other) <= 2 * many)
                if not goes_round(other.pairs + ((first, second),)):
                    less = factor(one, with_pair(other, first, second))
                    self.assertTrue(many <= 2 * less and less <= many)
                else:
                    self.refused(BadPair, {"place": len(other.pairs)}, with_pair, other, first, second)


class TheSame(Case):
    def test_factor_and_never_longer_and_never_late(self):
        for one, other in LARGE:
            top = (10 ** 29,) * len(one)
            limits = ((0,) * len(one), top)
            self.same(never_longer(one, other), factor(one, other) <= 1)
            self.same(never_longer(one, other), most_late(one, other, limits) <= 0)
            self.same(alike(one, other), never_longer(one, other) and never_longer(other, one))

    def test_time_of_more_waits(self):
        for plan in some_plans(2):
            whole = Plan(plan.works, all_waits(plan))
            for durations in some_durations(plan, 4):
                self.assertEqual(time_by_rows(plan, durations), time_by_rows(whole, durations))


class LaterPoints(Case):
    def test_one_pair_of_hands_keeps_an_order(self):
        for plan in every_plan(3) + some_plans(2):
            for number in {0, how_many_orders(plan) // 2, how_many_orders(plan) - 1}:
                order = nth_order(plan, number)
                begun = begins_by(plan, (1,) * len(plan), 1, order)
                self.same(begun, tuple(order.index(name) for name in plan.works))
            # By any order whatever, works begin in one that keeps the Plan.
            begun = begins_by(plan, (1,) * len(plan), 1, plan.works[::-1])
            self.same(is_order(plan, tuple(name for _, name in sorted(zip(begun, plan.works)))), True)

    def test_enough_hands_are_as_many_as_can_be_at_work(self):
        for plan in some_plans(2):
            self.same(hands_needed(plan), width(plan))
            for durations in some_durations(plan, 4):
                many = most_at_once(plan, durations)
                self.assertTrue(many <= hands_needed(plan))
                if min(durations) > 0:
                    self.same(time_by(plan, durations, many, plan.works), time_by_rows(plan, durations))

    def test_plans_put_together(self):
        for one, _, first, _ in four_plans():
            wide, long = beside(one, first), behind(one, first)
            self.same(hands_needed(wide), max(1, width(one) + width(first)))
            self.same(hands_needed(long), max(hands_needed(one), hands_needed(first)))
            for name in first.works:
                self.same(first_place(long, name), len(one) + first_place(first, name))

    def test_a_table_beside_factors(self):
        for one, other in LARGE:
            table = Table((("one", one), ("other", other), ("third", turned(one))))
            self.same(table.factor_of("one", "other"), factor(one, other))
            self.same(table.is_never_longer("one", "other"), never_longer(one, other))
            self.same("one" in table.above("other"), never_longer(one, other) and not never_longer(other, one))
            self.same(any({"one", "third"} <= set(some) for some in table.ties()), True)
            self.same(any({"one", "other"} <= set(some) for some in table.ties()), alike(one, other))

    def test_a_watch_beside_slacks(self):
        for plan in some_plans(2):
            durations = some_durations(plan, 3)[-1]
            for name, slack in zip(plan.works, slacks(plan, durations)):
                watch = Watch(plan, durations)
                lasts = durations[plan.works.index(name)]
                self.same(watch.last(name, lasts + slack), watch.told[0])
                self.assertIn(name, critical(plan, watch.durations))
                self.same(watch.last(name, lasts + slack + 1), watch.told[0] + 1)

    def test_a_watch_beside_with_pair(self):
        for plan in some_plans(1):
            durations = some_durations(plan, 3)[-1]
            for one, other in itertools.permutations(plan.works, 2):
                watch = Watch(plan, durations)
                if waits_for(plan, one, other):
                    self.refused(BadPair, {"place": len(plan.pairs)}, watch.wait, one, other)
                else:
                    self.assertTrue(watch.wait(one, other) >= watch.told[0])
                    self.assertTrue(watch.plan == with_pair(plan, one, other))


if __name__ == "__main__":
    unittest.main()
