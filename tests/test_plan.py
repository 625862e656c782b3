"""Points [2], [3] and [4]: the class Plan."""

import itertools
import random
import unittest

from lateplans.errors import BadPair
from lateplans.plans import Plan
from tests.asserts import Case
from tests.oracle import every_plan, first_bad, some_plans


class Built(Case):
    def test_no_works(self):
        for plan in (Plan(()), Plan([]), Plan((), ()), Plan([], [])):
            self.same((plan.works, plan.pairs, plan.text, len(plan)), ((), (), "-", 0))

    def test_one_work(self):
        plan = Plan(("a",))
        self.same((plan.works, plan.pairs, plan.text, len(plan)), (("a",), (), "a", 1))

    def test_longest_name(self):
        plan = Plan(("abcdefgh", "z"), (("z", "abcdefgh"),))
        self.same((plan.works, plan.text), (("abcdefgh", "z"), "abcdefgh z; z abcdefgh"))

    def test_pairs_in_any_order_count_once(self):
        rows = (("b", "c"), ("a", "b"), ("b", "c"), ("a", "c"), ("a", "b"))
        for order in itertools.permutations(rows):
            plan = Plan(("a", "b", "c"), order)
            self.same(plan.pairs, (("a", "b"), ("a", "c"), ("b", "c")))
            self.same(plan.text, "a b c; a b; a c; b c")

    def test_ten_works(self):
        works = tuple("abcdefghij")
        rows = tuple(itertools.combinations(works, 2))
        plan = Plan(works, rows[::-1])
        self.same((plan.works, plan.pairs, len(plan)), (works, rows, 10))
        self.refused(BadPair, {"place": 45}, Plan, works, rows + (("j", "a"),))

    def test_lists_for_tuples(self):
        told = Plan(("a", "b", "c"), (("c", "a"), ("a", "b")))
        for works, pairs in (
            (["a", "b", "c"], [["c", "a"], ["a", "b"]]),
            (("a", "b", "c"), [("c", "a"), ["a", "b"]]),
            (["a", "b", "c"], (["c", "a"], ("a", "b"))),
        ):
            plan = Plan(works, pairs)
            self.assertEqual(plan, told)
            self.same((plan.works, plan.pairs), (("a", "b", "c"), (("a", "b"), ("c", "a"))))

    def test_by_name(self):
        self.assertEqual(Plan(works=("a", "b"), pairs=(("a", "b"),)), Plan(("a", "b"), (("a", "b"),)))
        self.assertEqual(Plan(pairs=[["b", "a"]], works=["a", "b"]), Plan(("a", "b"), (("b", "a"),)))

    def test_copies_what_it_is_given(self):
        works, first, pairs = ["a", "b"], ["a", "b"], []
        pairs.append(first)
        plan = Plan(works, pairs)
        works.append("c")
        first[1] = "a"
        pairs.append(["b", "a"])
        self.same((plan.works, plan.pairs, plan.text), (("a", "b"), (("a", "b"),), "a b; a b"))

    def test_changes_nothing_it_is_given(self):
        works, pairs = ["a", "b", "c"], [["b", "c"], ["a", "b"], ["b", "c"]]
        Plan(works, pairs)
        self.assertEqual((works, pairs), (["a", "b", "c"], [["b", "c"], ["a", "b"], ["b", "c"]]))

    def test_pairs_of_one_plan_for_another(self):
        for plan in some_plans(2):
            self.assertEqual(Plan(plan.works, plan.pairs), plan)


class Refused(Case):
    def test_no_work_of_this_name(self):
        self.refused(BadPair, {"place": 0}, Plan, (), (("a", "b"),))
        self.refused(BadPair, {"place": 0}, Plan, ("a",), (("a", "b"),))
        self.refused(BadPair, {"place": 0}, Plan, ("b",), (("a", "b"),))
        self.refused(BadPair, {"place": 1}, Plan, ("a", "b"), (("a", "b"), ("z", "a")))

    def test_a_work_twice(self):
        self.refused(BadPair, {"place": 0}, Plan, ("a", "b"), (("a", "a"),))
        self.refused(BadPair, {"place": 2}, Plan, ("a", "b"), (("a", "b"), ("a", "b"), ("b", "b")))
        self.refused(BadPair, {"place": 0}, Plan, ("a", "b"), (("z", "z"),))

    def test_rounds(self):
        self.refused(BadPair, {"place": 1}, Plan, ("a", "b"), (("a", "b"), ("b", "a")))
        self.refused(BadPair, {"place": 3}, Plan, ("a", "b", "c"), (("a", "b"), ("b", "c"), ("a", "b"), ("c", "a")))
        self.refused(BadPair, {"place": 2}, Plan, ("a", "b", "c"), (("c", "a"), ("a", "b"), ("b", "c"), ("z", "a")))

    def test_the_first_one_decides(self):
        works = ("a", "b", "c")
        self.refused(BadPair, {"place": 1}, Plan, works, (("a", "b"), ("b", "a"), ("a", "z"), ("c", "c")))
        self.refused(BadPair, {"place": 1}, Plan, works, (("a", "b"), ("a", "z"), ("b", "a"), ("c", "c")))
        self.refused(BadPair, {"place": 1}, Plan, works, (("a", "b"), ("c", "c"), ("b", "a"), ("a", "z")))

    def test_the_place_is_that_of_the_pairs_as_handed_in(self):
        works = tuple("abcd")
        rows = [["d", "c"], ["d", "c"], ["c", "b"], ["b", "a"], ["c", "b"], ["a", "d"], ["a", "b"]]
        self.refused(BadPair, {"place": 5}, Plan, works, rows)
        self.refused(BadPair, {"place": 5}, Plan, works=works, pairs=rows)

    def test_every_two_and_three_pairs(self):
        offers = list(itertools.product("abz", repeat=2))
        for many in (1, 2, 3):
            for rows in itertools.product(offers, repeat=many):
                self.compare(("a", "b"), rows)

    def test_many_pairs_by_chance(self):
        chance = random.Random(3)
        for _ in range(400):
            works = tuple("abcdefghij"[:chance.randint(2, 10)])
            names = works + ("zz",) if chance.random() < 0.2 else works
            rows = []
            for _ in range(chance.randint(0, 25)):
                two = sorted(chance.sample(names, 2), reverse=chance.random() < 0.07)
                rows.append(tuple(two) if chance.random() < 0.98 else (two[0], two[0]))
            self.compare(works, tuple(rows))

    def compare(self, works, rows):
        place = first_bad(works, rows)
        if place is None:
            self.same(Plan(works, rows).pairs, tuple(sorted(set(rows))))
        else:
            self.refused(BadPair, {"place": place}, Plan, works, rows)

    def test_what_was_handed_in_stays(self):
        works, pairs = ["a", "b"], [["a", "b"], ["b", "a"]]
        self.refused(BadPair, {"place": 1}, Plan, works, pairs)
        self.assertEqual((works, pairs), (["a", "b"], [["a", "b"], ["b", "a"]]))


class Asked(Case):
    def test_properties_have_no_setters(self):
        plan = Plan(("a", "b"), (("a", "b"),))
        for name in ("works", "pairs", "text"):
            with self.assertRaises(AttributeError):
                setattr(plan, name, getattr(plan, name))
        self.same(plan.text, "a b; a b")

    def test_in(self):
        plan = Plan(("a", "b", "c"), (("a", "b"), ("b", "c")))
        for pair in itertools.product("abcz", repeat=2):
            told = pair in (("a", "b"), ("b", "c"))
            self.assertIs(pair in plan, told)
            self.assertIs(list(pair) in plan, told)
            self.assertIs(pair not in plan, not told)
        self.assertIs(("a", "b") in Plan(()), False)

    def test_len(self):
        for plan in every_plan(3) + some_plans(1):
            self.same(len(plan), len(plan.works))

    def test_iteration(self):
        for plan in (Plan(()), Plan(("a", "b"), (("a", "b"),))):
            for call in (iter, list, tuple, sorted, enumerate):
                self.assertRaises(TypeError, call, plan)
            with self.assertRaises(TypeError):
                for _ in plan:
                    pass

    def test_equal(self):
        plan = Plan(("a", "b", "c"), (("a", "b"), ("b", "c")))
        self.assertIs(plan == Plan(["a", "b", "c"], [["b", "c"], ["a", "b"], ["a", "b"]]), True)
        self.assertIs(plan != Plan(("a", "b", "c"), (("a", "b"), ("b", "c"))), False)
        others = [
            Plan(("a", "b", "c"), (("a", "b"),)), Plan(("a", "b", "c", "d"), (("a", "b"), ("b", "c"))),
            Plan(("a", "b", "c"), (("a", "b"), ("b", "c"), ("a", "c"))), Plan(()), None, 0, True, "", plan.text,
            plan.works, plan.pairs, (plan.works, plan.pairs), [], {}, Plan,
        ]
        for other in others:
            self.assertIs(plan == other, False)
            self.assertIs(other == plan, False)
            self.assertIs(plan != other, True)

    def test_equal_over_all_small_plans(self):
        plans = every_plan(3)
        self.assertEqual(len(plans), 25)
        for one, other in itertools.product(plans, repeat=2):
            self.assertIs(one == other, one.pairs == other.pairs)

    def test_the_same_twice(self):
        plan = Plan(("a", "b"), (("a", "b"),))
        self.same((plan.works, plan.pairs, plan.text), (plan.works, plan.pairs, plan.text))


if __name__ == "__main__":
    unittest.main()
