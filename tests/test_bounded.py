"""Point [9]: durations within limits."""

import itertools
import random
import unittest

from lateplans.bounded import (
    durations_apart, durations_late, is_durations_late, is_limits, is_within, least_late, most_late, never_late,
)
from lateplans.errors import OtherWorks
from lateplans.factor import factor
from lateplans.plans import Plan, turned
from tests.asserts import Case, shown
from tests.oracle import THINGS, every_plan, nested, rows, spoiled, time_by_rows, two_plans

SMALL = [pair for many in (0, 1, 2) for pair in itertools.product(every_plan(many), repeat=2)]
THREES = list(itertools.product(every_plan(3)[::2], every_plan(3)[::3]))
FOURS = list(zip(every_plan(4)[::16], every_plan(4)[::-17]))
LARGE = two_plans(3)
GREAT = 10 ** 29


def some_limits(plan, many, tops=(0, 1, 3), seed=17):
    chance, found = random.Random(seed), []
    for _ in range(many):
        top = chance.choice(tops)
        rows_of = [sorted((chance.randint(0, top), chance.randint(0, top))) for _ in plan.works]
        found.append((tuple(low for low, _ in rows_of), tuple(high for _, high in rows_of)))
    return found


def within(limits):
    """All DURATIONS within the LIMITS."""
    return list(itertools.product(*[range(low, high + 1) for low, high in zip(*limits)]))


def late(one, other, durations):
    return time_by_rows(one, durations) - time_by_rows(other, durations)


def most_by_rows(one, other, limits):
    """The greatest number by the guarantee of the document."""
    lows, highs = limits
    found = []
    for row in rows(one):
        own = tuple(high if name in row else low for name, low, high in zip(one.works, lows, highs))
        found.append(sum(high for name, high in zip(one.works, highs) if name in row) - time_by_rows(other, own))
    return max(found)


class Limits(Case):
    def test_is_limits(self):
        plan = Plan.of("a b; a b")
        for lows in itertools.product((0, 1, 2), repeat=2):
            for highs in itertools.product((0, 1, 2), repeat=2):
                right = lows[0] <= highs[0] and lows[1] <= highs[1]
                self.same(self.asked(is_limits, plan, (lows, highs)), right)
        self.same(is_limits(plan, ((0, 10 ** 50), (10 ** 50, 10 ** 60))), True)
        self.same(is_limits(Plan(()), ((), ())), True)

    def test_is_limits_any_thing(self):
        near = [((0, 0), (1, 1), (2, 2)), ((0, 0),), ((0, 0), (1,)), ((0,), (1, 1)), ((0, 0, 0), (1, 1, 1)),
                ((-1, 0), (1, 1)), ((True, 0), (1, 1)), ((0, 0), (True, 1)), [(0, 0), (1, 1)], ([0, 0], (1, 1)),
                ((0, 0), [1, 1]), ((0, "0"), (1, "1")), ("00", "11"), ((0, None), (1, None)), nested(10, ((0, 0), (1, 1)))]
        for works, tops in (((), 0), (("a",), 1), (("a", "b"), 2)):
            for thing in THINGS + near + spoiled(((0, 1)[:tops], (1, 1)[:tops])):
                right = (
                    type(thing) is tuple and len(thing) == 2
                    and all(type(part) is tuple and len(part) == len(works) for part in thing)
                    and all(type(lasts) is int and lasts >= 0 for part in thing for lasts in part)
                    and all(low <= high for low, high in zip(*thing))
                )
                self.same(self.asked(is_limits, Plan(works), thing), right)

    def test_is_within(self):
        plan = Plan.of("a b; a b")
        for limits in some_limits(plan, 12):
            told = {shown(thing) for thing in within(limits)}
            for thing in itertools.product(range(-1, 5), repeat=2):
                self.same(is_within(plan, limits, thing), shown(thing) in told)
            for thing in THINGS + spoiled(limits[0]) + spoiled(limits[1]):
                self.same(self.asked(is_within, plan, limits, thing), shown(thing) in told)
        self.same((is_within(Plan(()), ((), ()), ()), is_within(Plan(()), ((), ()), [])), (True, False))

    def test_other_works(self):
        one, right = Plan.of("a b; a b"), ((0, 0), (1, 1))
        calls = ((most_late,), (least_late,), (never_late,), (durations_late,), (is_durations_late, (0, 0)),
                 (is_durations_late, None), (durations_apart, 0), (durations_apart, -99))
        for limits in (((0,), (1,)), ((0, 0), (1,)), ((0,), (1, 1)), ((0, 0, 0), (1, 1, 1)), ((), ())):
            for call, *rest in calls:
                self.denied(OtherWorks, {}, call, one, turned(one), limits, *rest)
            for thing in THINGS:
                self.denied(OtherWorks, {}, is_within, one, limits, thing)
        for other in (Plan(()), Plan.of("a"), Plan.of("a c"), Plan.of("a b c")):
            for call, *rest in calls:
                self.denied(OtherWorks, {}, call, one, other, right, *rest)
                self.denied(OtherWorks, {}, call, other, one, right, *rest)


class Late(Case):
    def check(self, one, other, limits):
        told = {durations: late(one, other, durations) for durations in within(limits)}
        most, least = max(told.values()), min(told.values())
        self.same(self.asked(most_late, one, other, limits), most)
        self.same(self.asked(least_late, one, other, limits), least)
        self.same(self.asked(never_late, one, other, limits), most <= 0)
        self.same(most_by_rows(one, other, limits), most)
        self.same(told[self.asked(durations_late, one, other, limits)], most)
        for durations, number in told.items():
            self.same(is_durations_late(one, other, limits, durations), number == most)
        for number in range(least - 2, most + 3):
            found = self.asked(durations_apart, one, other, limits, number)
            if least <= number <= most:
                self.assertIn(found, told)
                self.same((told[found], found), (number, tuple(found)))
            else:
                self.same(found, None)

    def test_by_all_durations_within(self):
        for one, other in SMALL:
            for limits in some_limits(one, 6):
                self.check(one, other, limits)
        for one, other in THREES:
            for limits in some_limits(one, 3):
                self.check(one, other, limits)
        for one, other in FOURS:
            for limits in some_limits(one, 2, (2, 3)):
                self.check(one, other, limits)

    def test_large_plans(self):
        for one, other in LARGE:
            for limits in some_limits(one, 4, (1, 7, GREAT)):
                most = most_by_rows(one, other, limits)
                self.same(self.asked(most_late, one, other, limits), most)
                self.same(self.asked(least_late, other, one, limits), -most)
                self.same(never_late(one, other, limits), most <= 0)
                found = self.asked(durations_late, one, other, limits)
                self.same(is_within(one, limits, found), True)
                self.same(late(one, other, found), most)
                self.same(self.asked(is_durations_late, one, other, limits, found), True)

    def test_each_number_between(self):
        for one, other in LARGE:
            for limits in some_limits(one, 3, (7, GREAT)):
                least, most = least_late(one, other, limits), most_late(one, other, limits)
                for number in {least, most, (least + most) // 2, least + (most - least) // 3, 0, 1, least - 1, most + 1}:
                    found = self.asked(durations_apart, one, other, limits, number)
                    if least <= number <= most:
                        self.same(is_within(one, limits, found), True)
                        self.same(late(one, other, found), number)
                    else:
                        self.same(found, None)

    def test_edges(self):
        none = Plan(())
        self.same((most_late(none, none, ((), ())), least_late(none, none, ((), ()))), (0, 0))
        self.same((never_late(none, none, ((), ())), durations_late(none, none, ((), ()))), (True, ()))
        self.same([durations_apart(none, none, ((), ()), number) for number in (-1, 0, 1)], [None, (), None])
        self.same((is_durations_late(none, none, ((), ()), ()), is_durations_late(none, none, ((), ()), [])), (True, False))
        one, other = Plan.of("a b c; a b; b c"), Plan.of("a b c")
        fixed = ((5, 6, 7), (5, 6, 7))
        self.same((most_late(one, other, fixed), least_late(one, other, fixed)), (11, 11))
        self.same((durations_apart(one, other, fixed, 11), durations_apart(one, other, fixed, 10)), ((5, 6, 7), None))
        self.same((most_late(other, one, fixed), never_late(other, one, fixed)), (-11, True))
        wide = ((0, 0, 0), (10 ** 30,) * 3)
        self.same((most_late(one, other, wide), least_late(one, other, wide)), (2 * 10 ** 30, 0))
        self.same(late(one, other, durations_apart(one, other, wide, 10 ** 30 + 7)), 10 ** 30 + 7)
        self.same(durations_apart(one, other, wide, 10 ** 30 * 2 + 1), None)

    def test_never_late_within_all_limits(self):
        for one, other in LARGE + THREES[::9]:
            limits = ((0,) * len(one), (1,) * len(one))
            self.same(never_late(one, other, limits), factor(one, other) <= 1)

    def test_is_durations_late_any_thing(self):
        one, other, limits = Plan.of("a b; a b"), Plan.of("a b"), ((0, 1), (1, 1))
        for thing in THINGS + spoiled((1, 1)) + spoiled((0, 1)) + [(2, 2), (5, 1), (1, 0)]:
            self.same(self.asked(is_durations_late, one, other, limits, thing), shown(thing) == shown((1, 1)))
        one, limits = Plan.of("a b"), ((0, 0), (1, 1))
        for thing in THINGS + spoiled((1, 1)) + spoiled((0, 1)):
            right = shown(thing) in [shown(durations) for durations in within(limits)]
            self.same(is_durations_late(one, one, limits, thing), right)


if __name__ == "__main__":
    unittest.main()
