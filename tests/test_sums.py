"""Point [18]: durations together, and shorter works."""

import itertools
import random
import unittest

from lateplans.errors import NoWork
from lateplans.plans import Plan, behind, beside, turned
from lateplans.sums import (
    added, cheapest_cut, common_row, cut_price, first_critical, is_cheapest_cut, is_common_row, lost,
)
from lateplans.times import critical, slacks, time_of
from tests.asserts import Case
from tests.oracle import (
    LETTERS, THINGS, bits_durations, every_plan, longest_rows, rows, some_durations, some_plans, spoiled, subsets,
    time_by_rows,
)

GREAT = 10 ** 29
SMALL = every_plan(0) + every_plan(1) + every_plan(2) + every_plan(3)[::2] + every_plan(4)[::50]
LARGE = some_plans(2, sizes=(5, 6, 7)) + some_plans(1, sizes=(8, 10))
PAIRS = Plan.of("a b c d; a b; c d")


def sums(plan, several):
    return tuple(sum(durations[place] for durations in several) for place in range(len(plan)))


def common_rows(plan, several):
    """All ROWS that are longest by each one of several."""
    return [row for row in rows(plan) if all(row in longest_rows(plan, durations) for durations in several)]


def some_several(plan, many=5):
    """Several tuples of DURATIONS, none and twelve among them."""
    chance = random.Random(18)
    found = [(), tuple(some_durations(plan, 9))]
    for _ in range(many):
        top = chance.choice((1, 1, 2, GREAT))
        found.append(tuple(tuple(chance.randint(0, top) for _ in plan.works) for _ in range(chance.randint(1, 3))))
    one = tuple(chance.randint(0, 3) for _ in plan.works)
    return found + [(one,), (one, one), (one, tuple(3 * lasts for lasts in one), (0,) * len(plan))]


class Together(Case):
    def test_added(self):
        for one, other, told in (
            ((), (), ()), ((0,), (0,), (0,)), ((3, 0, 1, 2), (1, 1, 1, 1), (4, 1, 2, 3)),
            ((GREAT, 7), (9 * GREAT, 10 ** 30), (10 ** 30, 10 ** 30 + 7)),
        ):
            self.same(self.asked(added, one, other), told)
            self.same(added(other, one), told)

    def test_lost(self):
        for plan in SMALL + LARGE:
            for several in some_several(plan):
                told = sum(time_by_rows(plan, own) for own in several) - time_by_rows(plan, sums(plan, several))
                self.same(self.asked(lost, plan, several), told)
                self.same((told >= 0, told == 0), (True, common_rows(plan, several) != []))
                self.same(lost(turned(plan), several), told)
                self.same(lost(plan, several[::-1]), told)

    def test_common_row(self):
        seen = set()
        for plan in SMALL + LARGE:
            for several in some_several(plan):
                right = common_rows(plan, several)
                row = self.asked(common_row, plan, several)
                seen.add(row is None)
                if right:
                    self.assertIn(row, right)
                    self.same(is_common_row(plan, several, row), True)
                else:
                    self.same(row, None)
        self.assertEqual(seen, {True, False})

    def test_every_set(self):
        for plan in SMALL + some_plans(1, sizes=(5, 6)):
            for several in some_several(plan, 3):
                right = common_rows(plan, several)
                for some in list(subsets(plan.works))[::3]:
                    self.same(self.asked(is_common_row, plan, several, some), some in right)

    def test_any_thing(self):
        for several in ((), ((3, 1, 2, 2),), ((3, 1, 2, 2), (2, 2, 0, 1)), ((0, 0, 0, 0),), ((1, 0, 0, 0),)):
            right = common_rows(PAIRS, several)
            near = [thing for row in right for thing in spoiled(row)]
            for thing in THINGS + near:
                told = type(thing) is tuple and all(type(name) is str for name in thing) and thing in right
                self.same(is_common_row(PAIRS, several, thing), told)

    def test_none_of_several(self):
        self.same((lost(PAIRS, ()), lost(Plan(()), ()), common_row(Plan(()), ())), (0, 0, ()))
        self.same(is_common_row(PAIRS, (), ("a", "b")), True)
        self.same(is_common_row(PAIRS, (), ("a", "c")), False)
        self.same(is_common_row(PAIRS, (), ("b", "a")), False)
        self.same(is_common_row(Plan(()), (), ()), True)
        self.same(is_common_row(Plan(()), ((), ()), ()), True)

    def test_great_numbers(self):
        several = ((GREAT, 0, 0, 0), (0, 0, GREAT, 0)) * 5
        self.same((lost(PAIRS, several), common_row(PAIRS, several)), (5 * GREAT, None))
        self.same(lost(PAIRS, ((GREAT, 0, 0, 1),) * 10), 0)

    def test_plans_put_together(self):
        for plan in SMALL[::9]:
            for first in (Plan.of("x"), Plan.of("x y; x y"), Plan.of("x y")):
                several = some_several(plan, 3)[2]
                more = tuple(tuple(LETTERS.index(own) for own in "abc"[:len(first)]) for _ in several)
                both = tuple(own + other for own, other in zip(several, more))
                self.same(lost(behind(plan, first), both), lost(plan, several) + lost(first, more))
                self.assertTrue(lost(beside(plan, first), both) >= 0)


class First(Case):
    def test_first_critical(self):
        for plan in SMALL + LARGE:
            for durations in some_durations(plan, 4):
                for place, name in enumerate(plan.works):
                    def lasting(number):
                        return durations[:place] + (number,) + durations[place + 1:]

                    told = self.asked(first_critical, plan, durations, name)
                    through = [
                        sum(lasts for own, lasts in zip(plan.works, lasting(0)) if own in row)
                        for row in rows(plan) if name in row
                    ]
                    self.same(told, time_by_rows(plan, lasting(0)) - max(through))
                    self.assertIn(name, critical(plan, lasting(told)))
                    if told > 0:
                        self.assertNotIn(name, critical(plan, lasting(told - 1)))
                    for number, later in ((told, 0), (told // 2, 0), (told + 1, 1), (told + 10 ** 30, 10 ** 30)):
                        self.same(time_of(plan, lasting(number)), time_of(plan, lasting(0)) + later)

    def test_the_least_number(self):
        for plan in every_plan(3)[::2] + some_plans(1, sizes=(4, 5)):
            for durations in bits_durations(plan)[::3] + [tuple(range(len(plan)))]:
                for place, name in enumerate(plan.works):
                    numbers = [
                        number for number in range(12) if any(
                            name in row
                            for row in longest_rows(plan, durations[:place] + (number,) + durations[place + 1:])
                        )
                    ]
                    self.same(first_critical(plan, durations, name), numbers[0])

    def test_beside_slacks(self):
        for plan in LARGE:
            for durations in some_durations(plan, 3):
                for name, lasts, slack in zip(plan.works, durations, slacks(plan, durations)):
                    if slack > 0:
                        self.same(first_critical(plan, durations, name), lasts + slack)
                    else:
                        self.assertTrue(first_critical(plan, durations, name) <= lasts)

    def test_no_work(self):
        for name in ("x", "aa", "abcdefgh"):
            self.denied(NoWork, {"name": name}, first_critical, PAIRS, (1, 1, 1, 1), name)
        self.denied(NoWork, {"name": "a"}, first_critical, Plan(()), (), "a")


def cuts(plan, durations):
    """All sets of works that last at least 1 such that the time is less if each lasts one less."""
    time = time_by_rows(plan, durations)
    lasting = [name for name, lasts in zip(plan.works, durations) if lasts > 0]
    return [
        some for some in subsets(lasting)
        if time_by_rows(plan, tuple(lasts - (name in some) for name, lasts in zip(plan.works, durations))) < time
    ]


def price_of(plan, prices, some):
    return sum(price for name, price in zip(plan.works, prices) if name in some)


def some_prices(plan, many=3):
    return some_durations(plan, many, seed=19)


class Cuts(Case):
    def cases(self):
        for plan in SMALL + some_plans(2, sizes=(5,)) + some_plans(1, sizes=(6, 7)):
            for durations in bits_durations(plan)[1::7] + some_durations(plan, 3):
                yield plan, durations

    def test_over_all_sets(self):
        for plan, durations in self.cases():
            found = cuts(plan, durations)
            self.same(found == [], time_by_rows(plan, durations) == 0)
            for prices in some_prices(plan):
                least = min([price_of(plan, prices, some) for some in found], default=None)
                self.same(self.asked(cut_price, plan, durations, prices), least)
                some = self.asked(cheapest_cut, plan, durations, prices)
                if least is None:
                    self.same(some, None)
                else:
                    self.assertIn(some, found)
                    self.same(price_of(plan, prices, some), least)
                    self.same(is_cheapest_cut(plan, durations, prices, some), True)

    def test_every_set(self):
        for plan, durations in self.cases():
            found = cuts(plan, durations)
            for prices in some_prices(plan, 1)[1:]:
                least = min([price_of(plan, prices, some) for some in found], default=None)
                for some in list(subsets(plan.works))[::1 if len(plan) < 4 else 5]:
                    told = some in found and price_of(plan, prices, some) == least
                    self.same(is_cheapest_cut(plan, durations, prices, some), told)

    def test_guarantee(self):
        for plan, durations in self.cases():
            longest, found = longest_rows(plan, durations), cuts(plan, durations)
            lasting = [name for name, lasts in zip(plan.works, durations) if lasts > 0]
            for some in subsets(lasting):
                self.same(all(set(row) & set(some) for row in longest), some in found)

    def test_any_thing(self):
        for durations, prices in (
            ((3, 1, 2, 2), (5, 4, 1, 2)), ((3, 1, 2, 2), (5, 5, 1, 1)), ((3, 0, 1, 1), (7, 0, 1, 1)),
            ((0, 0, 0, 0), (1, 1, 1, 1)), ((1, 1, 1, 1), (0, 0, 0, 0)), ((3, 0, 1, 1), (0, 0, 0, 1)),
        ):
            found = cuts(PAIRS, durations)
            least = min([price_of(PAIRS, prices, some) for some in found], default=None)
            right = [some for some in found if price_of(PAIRS, prices, some) == least]
            near = [thing for some in right for thing in spoiled(some)]
            for thing in THINGS + near:
                told = type(thing) is tuple and all(type(name) is str for name in thing) and thing in right
                self.same(is_cheapest_cut(PAIRS, durations, prices, thing), told)

    def test_works_for_nothing_may_be_among_them(self):
        plan = Plan.of("a b c; a b")
        for some, told in ((("a",), True), (("a", "c"), True), (("b",), False), (("a", "b"), False), (("c",), False)):
            self.same(is_cheapest_cut(plan, (2, 2, 1), (0, 5, 0), some), told)
        # What lasts 0 cannot last less, whatever it costs.
        self.same(is_cheapest_cut(plan, (2, 2, 0), (0, 5, 0), ("a", "c")), False)
        self.same(is_cheapest_cut(plan, (2, 0, 0), (3, 0, 0), ("a", "b")), False)

    def test_no_works_one_work_and_zeros(self):
        for plan, durations in ((Plan(()), ()), (Plan.of("a"), (0,)), (PAIRS, (0, 0, 0, 0))):
            prices = (1,) * len(plan)
            self.same((cut_price(plan, durations, prices), cheapest_cut(plan, durations, prices)), (None, None))
            self.same(is_cheapest_cut(plan, durations, prices, ()), False)
            self.same(is_cheapest_cut(plan, durations, prices, None), False)
            self.same(is_cheapest_cut(plan, durations, prices, plan.works), False)
        self.same((cut_price(Plan.of("a"), (GREAT,), (GREAT,)), cheapest_cut(Plan.of("a"), (1,), (0,))), (GREAT, ("a",)))

    def test_ten_works(self):
        works = tuple(LETTERS)
        line, loose = Plan(works, tuple(zip(works, works[1:]))), Plan(works)
        prices = tuple(10 ** place for place in range(10, 0, -1))
        self.same((cut_price(line, (1,) * 10, prices), cheapest_cut(line, (5,) * 10, prices)), (10, ("j",)))
        self.same((cut_price(loose, (5,) * 10, prices), cheapest_cut(loose, (GREAT,) * 10, prices)), (sum(prices), works))
        self.same(cheapest_cut(loose, (1, 2, 3, 4, 5, 1, 2, 3, 4, 5), prices), ("e", "j"))
        groups = [works[:3], works[3:6], works[6:]]
        pairs = [pair for one, other in zip(groups, groups[1:]) for pair in itertools.product(one, other)]
        self.same(cheapest_cut(Plan(works, pairs), (7,) * 10, (9, 9, 9, 9, 9, 8, 6, 7, 6, 6)), works[6:])
        self.same(cheapest_cut(Plan(works, pairs), (7,) * 10, (9, 9, 9, 9, 8, 7, 6, 7, 6, 6)), works[3:6])

    def test_turned_and_as_many_times_as_long(self):
        for plan in LARGE:
            prices = some_prices(plan)[-1]
            for durations in some_durations(plan, 3):
                told = cut_price(plan, durations, prices)
                self.same(cut_price(turned(plan), durations, prices), told)
                self.same(cut_price(plan, tuple(3 * lasts for lasts in durations), prices), told)
                if told is not None:
                    self.same(cut_price(plan, durations, tuple(3 * price for price in prices)), 3 * told)


if __name__ == "__main__":
    unittest.main()
