"""Points [1], [3] and [11]: what holds for Plans put together, turned about, cut down, with a pair more."""

import itertools
import unittest

from lateplans.alike import alike, how_many_alike, never_longer
from lateplans.bounded import most_late
from lateplans.errors import BadPair
from lateplans.factor import factor
from lateplans.plans import Plan, all_waits, behind, beside, only, plain_plan, turned, with_pair
from lateplans.rows import great_lots, great_rows, longest, width
from tests.asserts import Case
from tests.oracle import every_plan, goes_round, some_durations, some_plans, time_by_rows, two_plans

LARGE = two_plans(3)


def moved(plan, names):
    """The same Plan of other works."""
    news = dict(zip(plan.works, names))
    return Plan(tuple(names[:len(plan)]), tuple((news[one], news[other]) for one, other in plan.pairs))


def four_plans():
    """Two Plans of the same works, and two of the same other works."""
    small = [pair for many in (0, 1, 2, 3) for pair in list(itertools.product(every_plan(many), repeat=2))[::7]]
    more = small[::-1] + two_plans(2, sizes=(4, 5))
    for (one, other), (first, second) in zip(small + two_plans(2, sizes=(4, 5), seed=41), more):
        yield one, other, moved(first, "uvwxyz"), moved(second, "uvwxyz")


class Joined(Case):
    def test_factors_of_plans_put_together(self):
        for one, other, first, second in four_plans():
            apart = (factor(one, other), factor(first, second))
            self.same(factor(behind(one, first), behind(other, second)), max(apart))
            self.same(factor(beside(one, first), beside(other, second)), max(apart))
            self.same(factor(beside(one, first), behind(other, second)), max(apart))
            self.same(factor(behind(one, first), beside(other, second)), sum(apart))

    def test_rows_and_lots_of_plans_put_together(self):
        for one, _, first, _ in four_plans():
            row, side = behind(one, first), beside(one, first)
            self.same((longest(row), width(row)), (longest(one) + longest(first), max(width(one), width(first))))
            self.same((longest(side), width(side)), (max(longest(one), longest(first)), width(one) + width(first)))
            self.same(len(great_rows(row)), len(great_rows(one)) * len(great_rows(first)))
            self.same(len(great_lots(side)), len(great_lots(one)) * len(great_lots(first)))
            self.same(how_many_alike(side), how_many_alike(one) * how_many_alike(first))

    def test_three_plans(self):
        for one, other, third in zip(some_plans(3), some_plans(3, seed=51), some_plans(3, seed=52)):
            self.assertLessEqual(factor(one, third), factor(one, other) * factor(other, third))


class Changed(Case):
    def test_turned_about(self):
        for one, other in LARGE:
            self.same((factor(turned(one), turned(other)), alike(one, turned(one))), (factor(one, other), True))
            self.same((great_rows(turned(one)), great_lots(turned(one))), (great_rows(one), great_lots(one)))
            self.same(how_many_alike(turned(one)), how_many_alike(one))

    def test_without_needless_pairs(self):
        for one, other in LARGE:
            self.same((factor(plain_plan(one), other), alike(plain_plan(one), one)), (factor(one, other), True))

    def test_some_works_alone(self):
        for one, other in LARGE:
            for some in (one.works[::2], one.works[1:], one.works[:3], ()):
                alone, more = only(one, some), only(other, some)
                self.assertLessEqual(factor(alone, more), factor(one, other))
                if never_longer(one, other):
                    self.same(never_longer(alone, more), True)
                limits = ((0,) * len(some), (1,) * len(some))
                within = tuple(int(name in some) for name in one.works)
                self.same(most_late(alone, more, limits), most_late(one, other, ((0,) * len(one), within)))

    def test_with_a_pair_more(self):
        for one, other in LARGE:
            many = factor(one, other)
            for first, second in list(itertools.permutations(one.works, 2))[::3]:
                if not goes_round(one.pairs + ((first, second),)):
                    more = with_pair(one, first, second)
                    self.same(never_longer(one, more), True)
                    self.assertTrue(many <= factor(more, other) <= 2 * many)
                if not goes_round(other.pairs + ((first, second),)):
                    less = factor(one, with_pair(other, first, second))
                    self.assertTrue(many <= 2 * less and less <= many)
                else:
                    self.refused(BadPair, {"place": len(other.pairs)}, with_pair, other, first, second)


class TheSame(Case):
    def test_factor_and_never_longer_and_never_late(self):
        for one, other in LARGE:
            top = (10 ** 29,) * len(one)
            limits = ((0,) * len(one), top)
            self.same(never_longer(one, other), factor(one, other) <= 1)
            self.same(never_longer(one, other), most_late(one, other, limits) <= 0)
            self.same(alike(one, other), never_longer(one, other) and never_longer(other, one))

    def test_time_of_more_waits(self):
        for plan in some_plans(2):
            whole = Plan(plan.works, all_waits(plan))
            for durations in some_durations(plan, 4):
                self.assertEqual(time_by_rows(plan, durations), time_by_rows(whole, durations))


if __name__ == "__main__":
    unittest.main()
