"""Point [15]: few hands."""

import itertools
import random
import unittest

from lateplans.errors import OtherWorks
from lateplans.hands import (
    begins_by, best_order, hands_needed, idle_by, is_row_by, least_time_by, row_by, time_by,
)
from lateplans.plans import Plan, turned
from lateplans.rows import great_lots, width
from lateplans.times import begins
from tests.asserts import Case
from tests.oracle import (
    THINGS, bits_durations, closure, every_plan, lots, nested, rows, some_durations, some_plans, spoiled,
    time_by_rows,
)

GREAT = 10 ** 29
LARGE = some_plans(3, sizes=(5, 6, 7)) + some_plans(1, sizes=(8, 10))
HOUSE = Plan.of("a b c d; a b; a c; b d; c d")


def starts_by(plan, durations, hands, order):
    """When the works begin, moment by moment: at each one the first in order that can begins, while a hand is free."""
    lasts, waits = dict(zip(plan.works, durations)), closure(plan.pairs)
    starts, moment = {}, 0

    def is_done(name):
        return name in starts and starts[name] + lasts[name] <= moment

    while True:
        for name in order:
            free = hands - len([own for own in starts if starts[own] <= moment < starts[own] + lasts[own]])
            if name not in starts and free > 0 and all(is_done(one) for one, other in waits if other == name):
                starts[name] = moment
                break
        else:
            if len(starts) == len(order):
                return starts
            moment = min(starts[own] + lasts[own] for own in starts if not is_done(own))


def spans_by(plan, durations, hands, order):
    starts, lasts = starts_by(plan, durations, hands, order), dict(zip(plan.works, durations))
    return {name: (starts[name], starts[name] + lasts[name]) for name in plan.works}


def slow_time(plan, durations, hands, order):
    return max([stop for _, stop in spans_by(plan, durations, hands, order).values()], default=0)


def rows_by(plan, durations, hands, order):
    """All ROWS of which one is at work at each moment when fewer works than hands are."""
    spans, time = spans_by(plan, durations, hands, order), slow_time(plan, durations, hands, order)
    stretches = []
    for moment in {own for span in spans.values() for own in span}:
        busy = {name for name, (start, stop) in spans.items() if start <= moment < stop}
        if moment < time and len(busy) < hands:
            stretches.append(busy)
    return [row for row in rows(plan) if all(busy & set(row) for busy in stretches)]


def small_cases():
    """Plans, DURATIONS, hands and orders."""
    chance = random.Random(15)
    for plan in every_plan(0) + every_plan(1) + every_plan(2) + every_plan(3)[::2] + every_plan(4)[::40]:
        for durations in bits_durations(plan)[::3] + some_durations(plan, 3):
            for order in list(itertools.permutations(plan.works))[::5]:
                yield plan, durations, chance.choice((1, 2, 3, 4, GREAT)), order


def large_cases():
    chance = random.Random(16)
    for plan in LARGE:
        for durations in some_durations(plan, 4):
            for hands in (1, 2, 3, len(plan), 10 ** 30):
                yield plan, durations, hands, tuple(chance.sample(plan.works, len(plan)))


class When(Case):
    def test_moment_by_moment(self):
        for plan, durations, hands, order in itertools.chain(small_cases(), large_cases()):
            starts = starts_by(plan, durations, hands, order)
            told = tuple(starts[name] for name in plan.works)
            self.same(self.asked(begins_by, plan, durations, hands, order), told)
            time = slow_time(plan, durations, hands, order)
            self.same(self.asked(time_by, plan, durations, hands, order), time)
            self.same(self.asked(idle_by, plan, durations, hands, order), hands * time - sum(durations))

    def test_one_pair_of_hands(self):
        for plan, durations, _, order in itertools.chain(small_cases(), large_cases()):
            self.same(time_by(plan, durations, 1, order), sum(durations))
            self.same(idle_by(plan, durations, 1, order), 0)

    def test_bound(self):
        for plan, durations, hands, order in itertools.chain(small_cases(), large_cases()):
            time = time_by_rows(plan, durations)
            told = time_by(plan, durations, hands, order)
            self.assertTrue(time <= told)
            self.assertTrue(hands * told <= sum(durations) + (hands - 1) * time)
            self.assertTrue(idle_by(plan, durations, hands, order) <= (hands - 1) * time)

    def test_enough_hands(self):
        for plan in every_plan(3) + LARGE:
            for durations in some_durations(plan, 2):
                for hands in (max(1, width(plan)), width(plan) + 1, 10 ** 30):
                    self.same(begins_by(plan, durations, hands, plan.works[::-1]), begins(plan, durations))
                    self.same(time_by(plan, durations, hands, plan.works), time_by_rows(plan, durations))

    def test_zeros(self):
        plan = Plan.of("a b c; a b; b c")
        for order in itertools.permutations(plan.works):
            self.same(begins_by(plan, (0, 0, 0), 1, order), (0, 0, 0))
        # A work that lasts 0 needs a pair of hands, too; what it lets begin goes by the order again.
        loose = Plan.of("a b c d; d a")
        self.same(begins_by(loose, (5, 3, 4, 0), 1, ("b", "a", "d", "c")), (3, 0, 8, 3))
        self.same(begins_by(loose, (5, 3, 4, 0), 1, ("a", "d", "b", "c")), (0, 5, 8, 0))
        self.same(begins_by(loose, (5, 3, 4, 0), 2, ("b", "c", "d", "a")), (3, 0, 0, 3))
        self.same(begins_by(loose, (0, 3, 4, 0), 1, ("a", "b", "c", "d")), (7, 0, 3, 7))

    def test_no_works_and_one(self):
        self.same((begins_by(Plan(()), (), 1, ()), time_by(Plan(()), (), 3, ()), idle_by(Plan(()), (), 3, ())), ((), 0, 0))
        self.same((row_by(Plan(()), (), 2, ()), is_row_by(Plan(()), (), 2, (), ())), ((), True))
        self.same((least_time_by(Plan(()), (), 1), best_order(Plan(()), (), 1), hands_needed(Plan(()))), (0, (), 1))
        one = Plan.of("a")
        self.same((begins_by(one, (GREAT,), 1, ("a",)), idle_by(one, (GREAT,), 3, ("a",))), ((0,), 2 * GREAT))
        self.same((row_by(one, (1,), 2, ("a",)), is_row_by(one, (1,), 2, ("a",), ())), (("a",), False))

    def test_more_time_with_less_to_do(self):
        # Known since long: with shorter works, or fewer waits, lists can do worse; the bound holds.
        plan = Plan.of("a b c d e f g h i; a i; d e; d f; d g; d h")
        order, lasts = tuple("abcdefghi"), (3, 2, 2, 2, 4, 4, 4, 4, 9)
        self.same(time_by(plan, lasts, 3, order), 12)
        self.same(time_by(plan, tuple(own - 1 for own in lasts), 3, order), 13)
        self.same(time_by(plan, lasts, 4, order), 15)
        self.same(time_by(Plan.of("a b c d e f g h i; a i; d e; d f"), lasts, 3, order), 16)


class Rows(Case):
    def test_a_row(self):
        for plan, durations, hands, order in itertools.chain(small_cases(), large_cases()):
            row = self.asked(row_by, plan, durations, hands, order)
            self.assertIn(row, rows_by(plan, durations, hands, order))
            self.same(is_row_by(plan, durations, hands, order, row), True)

    def test_every_row(self):
        for plan, durations, hands, order in small_cases():
            right = rows_by(plan, durations, hands, order)
            for some in [own for own in itertools.chain(rows(plan), lots(plan))]:
                told = self.asked(is_row_by, plan, durations, hands, order, some)
                self.same(told, some in right)

    def test_any_thing(self):
        days, order = (1, 2, 3, 1), ("a", "b", "c", "d")
        for hands in (1, 2, 3):
            right = rows_by(HOUSE, days, hands, order)
            near = [thing for row in right for thing in spoiled(row)]
            for thing in THINGS + near + [nested(12, "a"), nested(11, ("a", "c", "d"))]:
                told = type(thing) is tuple and all(type(own) is str for own in thing) and thing in right
                self.same(is_row_by(HOUSE, days, hands, order, thing), told)

    def test_works_that_last_0(self):
        self.same(is_row_by(HOUSE, (0, 2, 3, 0), 2, tuple("abcd"), ("c",)), True)
        self.same(is_row_by(HOUSE, (0, 2, 3, 0), 2, tuple("abcd"), ("a", "c", "d")), True)
        self.same(is_row_by(HOUSE, (0, 2, 3, 0), 2, tuple("abcd"), ("b",)), False)
        self.same(is_row_by(HOUSE, (0, 0, 0, 0), 9, tuple("abcd"), ("b",)), True)
        self.same(row_by(HOUSE, (0, 0, 0, 0), 9, tuple("abcd")), ())

    def test_long_row(self):
        for plan, durations, hands, order in large_cases():
            row = row_by(plan, durations, hands, order)
            lasts = dict(zip(plan.works, durations))
            most = sum(lasts[name] for name in row)
            self.assertTrue(idle_by(plan, durations, hands, order) <= (hands - 1) * most)


class Best(Case):
    def cases(self):
        for plan in every_plan(0) + every_plan(1) + every_plan(2) + every_plan(3)[::2] + every_plan(4)[::60]:
            for durations in bits_durations(plan)[1::5] + some_durations(plan, 4):
                yield plan, durations
        for plan in some_plans(3, sizes=(5,)) + [Plan(tuple("abcde"))]:
            for durations in some_durations(plan, 4)[2:]:
                yield plan, durations

    def test_over_all_orders(self):
        for plan, durations in self.cases():
            for hands in (1, 2, 3, 9):
                least = min(slow_time(plan, durations, hands, order) for order in itertools.permutations(plan.works))
                self.same(self.asked(least_time_by, plan, durations, hands), least)
                order = self.asked(best_order, plan, durations, hands)
                self.same((sorted(order), type(order)), (list(plan.works), tuple))
                self.same(slow_time(plan, durations, hands, order), least)

    def test_six_works(self):
        chance = random.Random(17)
        plan = Plan.of("a b c d e f; a d; b d; c e")
        for plan in (plan, turned(plan), Plan(tuple("abcdef"))):
            durations = tuple(chance.randint(1, GREAT) for _ in plan.works)
            for hands in (2, 4):
                least = min(slow_time(plan, durations, hands, order) for order in itertools.permutations(plan.works))
                self.same(least_time_by(plan, durations, hands), least)
                self.same(time_by(plan, durations, hands, best_order(plan, durations, hands)), least)

    def test_a_longer_work_first(self):
        loose = Plan.of("a b c d e f")
        self.same(least_time_by(loose, (1, 1, 1, 1, 1, 5), 2), 5)
        self.same(time_by(loose, (1, 1, 1, 1, 1, 5), 2, loose.works), 7)
        # The longest ones first is not the best here.
        self.same(least_time_by(Plan.of("a b c d e"), (3, 3, 2, 2, 2), 2), 6)
        self.same(time_by(Plan.of("a b c d e"), (3, 3, 2, 2, 2), 2, tuple("abcde")), 7)

    def test_hands_needed(self):
        for plan in every_plan(0) + every_plan(1) + every_plan(2) + every_plan(3) + LARGE:
            needed = max([1] + [len(lot) for lot in lots(plan)])
            self.same(self.asked(hands_needed, plan), needed)
            self.same(needed, max(1, max(len(lot) for lot in great_lots(plan))))

    def test_one_pair_too_few(self):
        for plan in every_plan(3) + some_plans(2, sizes=(4, 5)):
            many, orders = hands_needed(plan), list(itertools.permutations(plan.works))[::6]
            if many > 1:
                self.assertTrue(any(
                    slow_time(plan, durations, many - 1, order) > time_by_rows(plan, durations)
                    for durations in bits_durations(plan) for order in orders
                ))


class Refused(Case):
    def calls(self, plan, durations, hands, order):
        for call in (begins_by, time_by, idle_by, row_by):
            yield call, (plan, durations, hands, order)
        for thing in ((), ("a",), None, [["a"]]):
            yield is_row_by, (plan, durations, hands, order, thing)

    def test_durations(self):
        for plan in (Plan(()), Plan.of("a"), HOUSE):
            for many in range(7):
                if many != len(plan):
                    durations = (1,) * many
                    for call, rest in self.calls(plan, durations, 2, plan.works):
                        self.denied(OtherWorks, {}, call, *rest)
                    self.denied(OtherWorks, {}, least_time_by, plan, durations, 2)
                    self.denied(OtherWorks, {}, best_order, plan, durations, 2)

    def test_orders(self):
        for order in (
            (), ("a",), ("a", "b", "c"), ("a", "b", "c", "d", "d"), ("a", "b", "c", "c"), ("a", "b", "c", "e"),
            ("a", "b", "c", "d", "e"), ("aa", "b", "c", "d"), ("d", "c", "b", "b"),
        ):
            for call, rest in self.calls(HOUSE, (1, 2, 3, 1), 2, order):
                self.denied(OtherWorks, {}, call, *rest)
        for call, rest in self.calls(Plan(()), (), 1, ("a",)):
            self.denied(OtherWorks, {}, call, *rest)

    def test_lists_that_are_changed_then(self):
        durations, order = [1, 2, 3, 1], ["a", "b", "c", "d"]
        told = begins_by(HOUSE, durations, 2, order)
        durations[0], order[0] = 50, "d"
        self.same(told, (0, 1, 1, 4))
        self.same((durations, order), ([50, 2, 3, 1], ["d", "b", "c", "d"]))


if __name__ == "__main__":
    unittest.main()
