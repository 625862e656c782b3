"""Point [17]: ORDERS that keep a Plan."""

import itertools
import math
import unittest

from lateplans.counts import (
    first_place, how_many_ahead, how_many_at, how_many_orders, is_order, last_place, nth_order, number_of_order,
)
from lateplans.errors import NoNumber, NoWork
from lateplans.plans import Plan, all_waits, beside, behind, plain_plan, turned, waits_for
from tests.asserts import Case
from tests.oracle import LETTERS, THINGS, closure, every_plan, nested, some_plans, spoiled

SMALL = every_plan(0) + every_plan(1) + every_plan(2) + every_plan(3) + every_plan(4)[::12]
MIDDLE = some_plans(4, sizes=(5, 6)) + some_plans(1, sizes=(7,)) + [Plan(tuple("abcde"))]
LARGE = some_plans(3, sizes=(8, 9, 10))
HOUSE = Plan.of("dig lamp paint wall; dig wall; lamp paint; wall paint")


def orders_of(plan):
    """All ORDERS, ascending."""
    return [
        order for order in itertools.permutations(plan.works)
        if all(order.index(one) < order.index(other) for one, other in plan.pairs)
    ]


def count(plan):
    """How many ORDERS there are, by which work is last."""
    if not plan.works:
        return 1
    waits, total = closure(plan.pairs), 0
    for name in plan.works:
        if not any(one == name for one, _ in waits):
            rest = tuple(own for own in plan.works if own != name)
            total += count(Plan(rest, tuple(pair for pair in waits if name not in pair)))
    return total


class Numbered(Case):
    def test_every_order(self):
        for plan in SMALL + MIDDLE:
            orders = orders_of(plan)
            self.same(self.asked(how_many_orders, plan), len(orders))
            for number, order in list(enumerate(orders))[::1 if len(orders) < 40 else 17]:
                self.same(self.asked(nth_order, plan, number), order)
                self.same(self.asked(number_of_order, plan, order), number)
                self.same(self.asked(is_order, plan, order), True)
            self.same(nth_order(plan, len(orders) - 1), orders[-1])

    def test_no_number(self):
        for plan in SMALL[::3] + MIDDLE:
            many = len(orders_of(plan))
            for number in (-1, many, many + 1, -many, 10 ** 30, -10 ** 30):
                self.denied(NoNumber, {"number": number}, nth_order, plan, number)

    def test_no_order(self):
        for plan in every_plan(2) + every_plan(3):
            orders = orders_of(plan)
            for words in itertools.chain(
                itertools.permutations(plan.works), itertools.product(plan.works, repeat=len(plan)),
                itertools.permutations(plan.works + ("z",), len(plan)), [plan.works + ("z",), plan.works[1:], ()],
                [plan.works + plan.works[-1:], plan.works[:1] + plan.works],
            ):
                told = orders.index(words) if words in orders else None
                self.same(self.asked(number_of_order, plan, words), told)
                self.same(self.asked(is_order, plan, words), told is not None)

    def test_any_thing(self):
        for plan in [Plan(()), Plan.of("a"), Plan.of("a b; a b"), Plan.of("a b; b a"), Plan.of("a b c"), HOUSE]:
            orders = orders_of(plan)
            near = [thing for order in orders[:3] for thing in spoiled(order)]
            for thing in THINGS + near + [nested(11, plan.works), nested(11, "a")]:
                told = type(thing) is tuple and all(type(name) is str for name in thing) and thing in orders
                self.same(is_order(plan, thing), told)
        self.same(is_order(HOUSE, list(orders_of(HOUSE)[0])), False)

    def test_great_numbers(self):
        loose = Plan(tuple(LETTERS))
        self.same(how_many_orders(loose), math.factorial(10))
        for number in (0, 1, 9, 1000000, 2 ** 20, math.factorial(10) - 1):
            order = nth_order(loose, number)
            self.same(number_of_order(loose, order), number)
        self.same(nth_order(loose, math.factorial(10) - 1), tuple(LETTERS[::-1]))
        self.denied(NoNumber, {"number": math.factorial(10)}, nth_order, loose, math.factorial(10))
        # The first of the ten million orders that begin with b.
        self.same(nth_order(loose, math.factorial(9)), tuple("bacdefghij"))

    def test_large_plans(self):
        for plan in LARGE:
            many = count(plan)
            self.same(how_many_orders(plan), many)
            seen = []
            for number in sorted({0, 1 % many, many // 3, many // 2, many - 1}):
                order = nth_order(plan, number)
                self.same((number_of_order(plan, order), is_order(plan, order)), (number, True))
                seen.append(order)
            self.assertEqual(seen, sorted(set(seen)))
            self.same(is_order(turned(plan), order[::-1]), True)

    def test_no_works_one_work_and_a_line(self):
        self.same((how_many_orders(Plan(())), nth_order(Plan(()), 0), number_of_order(Plan(()), ())), (1, (), 0))
        self.same((is_order(Plan(()), ()), is_order(Plan(()), []), number_of_order(Plan(()), ("a",))), (True, False, None))
        self.denied(NoNumber, {"number": 1}, nth_order, Plan(()), 1)
        self.same((how_many_orders(Plan.of("a")), nth_order(Plan.of("a"), 0)), (1, ("a",)))
        line = Plan(tuple(LETTERS), tuple(zip(LETTERS[1:], LETTERS)))
        self.same((how_many_orders(line), nth_order(line, 0)), (1, tuple(LETTERS[::-1])))
        self.denied(NoNumber, {"number": 1}, nth_order, line, 1)

    def test_lists_that_are_changed_then(self):
        order = ["lamp", "dig", "wall", "paint"]
        self.same(number_of_order(HOUSE, order), 2)
        order.reverse()
        self.same((number_of_order(HOUSE, order), order), (None, ["paint", "wall", "dig", "lamp"]))


class Places(Case):
    def test_every_place(self):
        for plan in SMALL + MIDDLE:
            orders = orders_of(plan)
            for name in plan.works:
                places = [order.index(name) for order in orders]
                self.same(self.asked(first_place, plan, name), min(places))
                self.same(self.asked(last_place, plan, name), max(places))
                for place in (-10 ** 30, -1, *range(len(plan) + 1), 10 ** 30):
                    self.same(self.asked(how_many_at, plan, name, place), places.count(place))

    def test_guarantees(self):
        for plan in LARGE:
            waits, many = all_waits(plan), count(plan)
            for name in plan.works:
                first, last = first_place(plan, name), last_place(plan, name)
                self.same(first, len([pair for pair in waits if pair[1] == name]))
                self.same(last, len(plan) - 1 - len([pair for pair in waits if pair[0] == name]))
                at = [how_many_at(plan, name, place) for place in range(len(plan))]
                self.same(sum(at), many)
                self.same([place for place, own in enumerate(at) if own > 0], list(range(first, last + 1)))

    def test_no_work(self):
        for plan in (Plan(()), Plan.of("a"), HOUSE):
            for name in ("z", "aa", "diga"):
                self.denied(NoWork, {"name": name}, first_place, plan, name)
                self.denied(NoWork, {"name": name}, last_place, plan, name)
                for place in (-1, 0, 99):
                    self.denied(NoWork, {"name": name}, how_many_at, plan, name, place)


class Ahead(Case):
    def test_every_two_works(self):
        for plan in SMALL + MIDDLE:
            orders = orders_of(plan)
            for one, other in itertools.permutations(plan.works, 2):
                told = len([order for order in orders if order.index(one) < order.index(other)])
                self.same(self.asked(how_many_ahead, plan, one, other), told)

    def test_guarantees(self):
        for plan in LARGE:
            many = how_many_orders(plan)
            for one, other in list(itertools.permutations(plan.works, 2))[::3]:
                ahead = how_many_ahead(plan, one, other)
                self.same(ahead + how_many_ahead(plan, other, one), many)
                self.same((ahead == many, ahead == 0), (waits_for(plan, other, one), waits_for(plan, one, other)))

    def test_no_work(self):
        for one, other, name in (("dig", "z", "z"), ("z", "dig", "z"), ("z", "y", "z"), ("y", "z", "y")):
            self.denied(NoWork, {"name": name}, how_many_ahead, HOUSE, one, other)
        self.denied(NoWork, {"name": "a"}, how_many_ahead, Plan(()), "a", "b")


class Together(Case):
    def test_turned_and_plain(self):
        for plan in SMALL[::5] + MIDDLE + LARGE:
            many = how_many_orders(plan)
            self.same((how_many_orders(turned(plan)), how_many_orders(plain_plan(plan))), (many, many))
            for name in plan.works:
                self.same(how_many_at(turned(plan), name, 0), how_many_at(plan, name, len(plan) - 1))

    def test_beside_and_behind(self):
        for plan in SMALL[::9]:
            for other in (Plan(()), Plan.of("x"), Plan.of("x y; y x"), Plan.of("x y z; x y")):
                many = how_many_orders(plan) * how_many_orders(other)
                self.same(how_many_orders(behind(plan, other)), many)
                total = len(plan) + len(other)
                self.same(how_many_orders(beside(plan, other)), many * math.comb(total, len(other)))


if __name__ == "__main__":
    unittest.main()
