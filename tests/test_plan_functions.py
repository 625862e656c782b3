"""Point [4]: the functions over Plans."""

import itertools
import random
import unittest
from unittest import mock

from lateplans import bits
from lateplans.errors import BadPair, Known, NoWork
from lateplans.plans import (
    Plan, all_waits, behind, beside, in_row, needless_pairs, only, plain_plan, row_pairs, turned, waits_for,
    with_pair, without_pair,
)
from tests.asserts import Case
from tests.oracle import closure, every_plan, goes_round, some_plans, subsets

PLANS = every_plan(0) + every_plan(1) + every_plan(2) + every_plan(3) + some_plans(8)


class Waits(Case):
    def test_all_waits(self):
        for plan in PLANS + every_plan(4):
            self.same(all_waits(plan), tuple(sorted(closure(plan.pairs))))

    def test_waits_for_and_in_row(self):
        for plan in PLANS:
            waits = closure(plan.pairs)
            for one, other in itertools.product(plan.works, repeat=2):
                self.same(waits_for(plan, one, other), (other, one) in waits)
                self.same(in_row(plan, one, other), (one, other) in waits or (other, one) in waits)

    def test_no_work(self):
        plan = Plan.of("a b c; a b; b c")
        for call in (waits_for, in_row, with_pair, without_pair):
            for one, other, name in (
                ("z", "a", "z"), ("a", "z", "z"), ("z", "y", "z"), ("y", "z", "y"), ("z", "z", "z"), ("zz", "a", "zz"),
            ):
                self.refused(NoWork, {"name": name}, call, plan, one, other)
                self.refused(NoWork, {"name": name}, call, other=other, one=one, plan=plan)
            self.refused(NoWork, {"name": "a"}, call, Plan(()), "a", "b")
        self.same(plan.text, "a b c; a b; b c")

    def test_row_pairs(self):
        for plan in PLANS + every_plan(4):
            rows = tuple(sorted({tuple(sorted(pair)) for pair in closure(plan.pairs)}))
            self.same(row_pairs(plan), rows)
            self.same(row_pairs(turned(plan)), rows)


class ManyQuestions(Case):
    def test_all_pairs_of_many_plans_of_ten_works(self):
        plans = some_plans(300, sizes=(10,), seed=71)
        self.assertGreater(len({plan.text for plan in plans}), 290)
        for plan in plans:
            pairs = list(itertools.product(plan.works, repeat=2))
            waits = tuple(sorted((y, x) for x, y in pairs if waits_for(plan, x, y)))
            rows = tuple((x, y) for x, y in pairs if x < y and in_row(plan=plan, one=x, other=y))
            self.same((all_waits(plan), row_pairs(plan)), (waits, rows))
            self.same(waits, tuple(sorted((y, x) for x, y in pairs if waits_for(other=y, one=x, plan=plan))))
            for x, y in pairs:
                self.same(in_row(plan, x, y), (x, y) in rows or (y, x) in rows)
            self.assertEqual(set(waits), closure(plan.pairs))

    def test_what_is_asked_first(self):
        for plan in some_plans(3, seed=72):
            waits = closure(plan.pairs)
            for calls in itertools.permutations((waits_for, in_row, all_waits, row_pairs, needless_pairs, plain_plan)):
                again = Plan(plan.works, plan.pairs)
                for call in calls[:3]:
                    rest = (plan.works[0], plan.works[-1]) if call in (waits_for, in_row) else ()
                    self.asked(call, again, *rest)
                self.same(waits_for(again, "b", "a"), ("a", "b") in waits)
                self.same(all_waits(again), tuple(sorted(waits)))

    def test_found_out_once_for_each_plan(self):
        for plan in some_plans(2, seed=73):
            with mock.patch("lateplans.plans.ways_between", side_effect=bits.ways_between) as counted:
                for one, other in itertools.product(plan.works, repeat=2):
                    waits_for(plan, one, other)
                    in_row(plan, one, other)
                all_waits(plan)
                row_pairs(plan)
                needless_pairs(plan)
                self.assertEqual(counted.call_count, 1)

    def test_plans_made_of_a_plan_that_was_asked(self):
        plan = Plan.of("a b c; a b")
        self.same((in_row(plan, "a", "c"), waits_for(plan, "c", "b")), (False, False))
        more = with_pair(plan, "b", "c")
        self.same((in_row(more, "a", "c"), waits_for(more, "c", "b"), in_row(plan, "a", "c")), (True, True, False))
        less = without_pair(more, "a", "b")
        self.same((in_row(less, "a", "c"), waits_for(less, "c", "b"), in_row(more, "a", "c")), (False, True, True))
        self.same((waits_for(turned(more), "a", "c"), waits_for(more, "a", "c")), (True, False))
        self.same(in_row(only(more, ("a", "c")), "a", "c"), True)

    def test_an_error_changes_no_answer(self):
        plan = Plan.of("a b c; a b; b c")
        for call in (waits_for, in_row):
            self.denied(NoWork, {"name": "z"}, call, plan, "a", "z")
            self.same((call(plan, "c", "a"), call(plan, "c", "c")), (True, False))
            self.denied(NoWork, {"name": "y"}, call, plan, "y", "z")

    def test_equal_whatever_was_asked(self):
        one, other = Plan.of("a b c; a b; b c"), Plan.of("a b c; a b; b c")
        in_row(one, "a", "c")
        self.assertTrue(one == other and not one != other)
        self.same((one.text, one.pairs, one.works), (other.text, other.pairs, other.works))


class Needless(Case):
    def test_pairs_that_all_others_make_wait(self):
        for plan in PLANS + every_plan(4):
            needless = tuple(
                pair for pair in plan.pairs if pair in closure([own for own in plan.pairs if own != pair])
            )
            self.same(needless_pairs(plan), needless)
            plain = plain_plan(plan)
            self.same(plain.works, plan.works)
            self.same(plain.pairs, tuple(pair for pair in plan.pairs if pair not in needless))

    def test_the_same_works_wait(self):
        for plan in PLANS:
            self.same(all_waits(plain_plan(plan)), all_waits(plan))
            self.same(needless_pairs(plain_plan(plan)), ())

    def test_ten_works_all_in_a_row(self):
        works = tuple("abcdefghij")
        plan = Plan(works, tuple(itertools.combinations(works, 2)))
        self.same(plain_plan(plan).pairs, tuple(zip(works, works[1:])))
        self.same(len(needless_pairs(plan)), 36)


class OnePairMoreOrLess(Case):
    def test_with_pair(self):
        for plan in PLANS:
            for one, other in itertools.product(plan.works, repeat=2):
                rows = plan.pairs + ((one, other),)
                if goes_round(rows):
                    self.refused(BadPair, {"place": len(plan.pairs)}, with_pair, plan, one, other)
                else:
                    self.assertEqual(with_pair(plan, one, other), Plan(plan.works, rows))

    def test_with_a_pair_that_is_there(self):
        plan = Plan.of("a b c; a b; b c")
        self.assertEqual(with_pair(plan, "a", "b"), plan)
        self.same(with_pair(plan, "a", "c").text, "a b c; a b; a c; b c")
        self.same(plan.text, "a b c; a b; b c")

    def test_one_work_twice(self):
        self.refused(BadPair, {"place": 0}, with_pair, Plan.of("a"), "a", "a")
        self.refused(BadPair, {"place": 1}, with_pair, Plan.of("a b; b a"), one="a", other="a")

    def test_no_work_is_told_ahead_of_a_bad_pair(self):
        self.refused(NoWork, {"name": "z"}, with_pair, Plan.of("a b; a b"), "z", "z")

    def test_without_pair(self):
        for plan in PLANS:
            for one, other in itertools.product(plan.works, repeat=2):
                told = Plan(plan.works, tuple(pair for pair in plan.pairs if pair != (one, other)))
                self.assertEqual(without_pair(plan, one, other), told)

    def test_without_a_pair_that_is_not_there(self):
        plan = Plan.of("a b c; a b; b c")
        for one, other in (("a", "c"), ("b", "a"), ("c", "c")):
            self.assertIs(without_pair(plan, one, other), plan)
        self.same(without_pair(Plan.of("a b c; a b; a c; b c"), "a", "c").text, "a b c; a b; b c")


class OtherPlans(Case):
    def test_turned(self):
        for plan in PLANS:
            back = turned(plan)
            self.same((back.works, back.pairs), (plan.works, tuple(sorted((y, x) for x, y in plan.pairs))))
            self.assertEqual(turned(back), plan)

    def test_only(self):
        for plan in PLANS:
            waits = all_waits(plan)
            for some in itertools.islice(subsets(plan.works), 80):
                told = tuple(pair for pair in waits if pair[0] in some and pair[1] in some)
                for asked in (some, list(some)):
                    alone = only(plan, asked)
                    self.same((alone.works, alone.pairs), (some, told))

    def test_only_copies(self):
        some = ["a", "c"]
        alone = only(Plan.of("a b c; a b; b c"), some)
        some.append("d")
        self.same(alone.text, "a c; a c")

    def test_only_no_work(self):
        plan = Plan.of("a c; a c")
        self.refused(NoWork, {"name": "b"}, only, plan, ("a", "b", "c", "d"))
        self.refused(NoWork, {"name": "b"}, only, plan=plan, some=["b", "d"])
        self.refused(NoWork, {"name": "a"}, only, Plan(()), ("a",))
        self.same(only(Plan(()), ()).text, "-")

    def test_beside_and_behind(self):
        for one, other in itertools.product(every_plan(2) + every_plan(0), every_plan(3)):
            names = dict(zip("abc", "bde"))
            moved = Plan(
                tuple(names[name] for name in other.works), tuple((names[x], names[y]) for x, y in other.pairs)
            )
            free = Plan(tuple({"a": "a", "b": "c"}[x] for x in one.works),
                        tuple(({"a": "a", "b": "c"}[x], {"a": "a", "b": "c"}[y]) for x, y in one.pairs))
            self.compare(free, moved)
            self.compare(moved, free)

    def compare(self, one, other):
        works = tuple(sorted(one.works + other.works))
        both = beside(one, other)
        self.same((both.works, both.pairs), (works, tuple(sorted(one.pairs + other.pairs))))
        row = behind(one, other)
        cross = tuple(itertools.product(one.works, other.works))
        self.same((row.works, row.pairs), (works, tuple(sorted(one.pairs + other.pairs + cross))))

    def test_ten_works_together(self):
        one, other = Plan(tuple("acegi"), (("a", "c"),)), Plan(tuple("bdfhj"), (("j", "b"),))
        self.compare(one, other)
        self.same(len(behind(other, one).pairs), 27)
        self.compare(Plan(()), Plan(()))

    def test_known(self):
        one, other = Plan.of("b c d e; b d"), Plan.of("a d e f; e a")
        for call in (beside, behind):
            self.refused(Known, {"name": "d"}, call, one, other)
            self.refused(Known, {"name": "d"}, call, other=one, one=other)
            self.refused(Known, {"name": "b"}, call, one, one)
        self.same((one.text, other.text), ("b c d e; b d", "a d e f; e a"))

    def test_nothing_is_changed(self):
        for plan in some_plans(2):
            text, copy = plan.text, Plan(plan.works, plan.pairs)
            for call in (all_waits, row_pairs, needless_pairs, plain_plan, turned):
                self.assertEqual(call(plan), call(plan=copy))
            only(plan, plan.works[:2])
            without_pair(plan, plan.works[0], plan.works[1])
            self.assertEqual((plan.text, plan), (text, copy))


class ByChance(Case):
    def test_pairs_put_in_and_taken_out(self):
        chance = random.Random(9)
        for _ in range(40):
            works = tuple("abcdefghij"[:chance.randint(1, 10)])
            plan, pairs = Plan(works), set()
            for _ in range(40):
                pair = (chance.choice(works), chance.choice(works))
                if chance.random() < 0.3:
                    pairs.discard(pair)
                    plan = without_pair(plan, *pair)
                elif goes_round(pairs | {pair}):
                    self.refused(BadPair, {"place": len(pairs)}, with_pair, plan, *pair)
                else:
                    pairs.add(pair)
                    plan = with_pair(plan, *pair)
                self.assertEqual(plan.pairs, tuple(sorted(pairs)))


if __name__ == "__main__":
    unittest.main()
