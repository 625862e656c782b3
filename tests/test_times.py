"""Point [5]: times."""

import unittest

from lateplans.plans import Plan, turned
from lateplans.times import (
    at_work, begins, critical, ends, how_many_longest, is_durations, is_longest_row, latest_begins, longest_row,
    most_at_once, slacks, time_of,
)
from tests.asserts import Case
from tests.oracle import (
    THINGS, every_plan, longest_rows, nested, rows, some_durations, some_plans, spans, subsets, time_by_rows,
)

SMALL = every_plan(0) + every_plan(1) + every_plan(2) + every_plan(3)
LARGE = some_plans(4, sizes=(5, 6, 7)) + some_plans(2, sizes=(8, 10))
HOUSE = Plan.of("dig lamp paint wall; dig wall; lamp paint; wall paint")


def all_cases(many=4):
    for plan in SMALL + LARGE:
        for durations in some_durations(plan, many):
            yield plan, durations


class Durations(Case):
    def test_they_are(self):
        for plan, durations in all_cases():
            self.same(is_durations(plan, durations), True)
            self.same(is_durations(plan=plan, thing=durations), True)
        self.same(is_durations(Plan(()), ()), True)
        self.same(is_durations(Plan.of("a b"), (10 ** 30, 10 ** 60)), True)

    def test_lists_are_none(self):
        self.same(is_durations(Plan(()), []), False)
        self.same(is_durations(Plan.of("a b"), [0, 0]), False)

    def test_another_number_of_them(self):
        for many in range(7):
            self.same(is_durations(HOUSE, (1,) * many), many == 4)

    def test_one_that_is_none(self):
        for wrong in (-1, -10 ** 40, True, False, None, "1", "", "a", (), (1,), [1], [], nested(11, 1)):
            for place in range(4):
                durations = [2, 4, 1, 3]
                durations[place] = wrong
                self.same(is_durations(HOUSE, tuple(durations)), False)

    def test_any_thing(self):
        plans = [Plan(()), Plan.of("a"), Plan.of("a b; a b"), Plan.of("a b c")]
        for plan in plans:
            for thing in THINGS:
                told = type(thing) is tuple and len(thing) == len(plan) and all(type(x) is int and x >= 0 for x in thing)
                self.same(is_durations(plan, thing), told)


class When(Case):
    def test_no_works(self):
        plan = Plan(())
        for call in (begins, ends, latest_begins, slacks, critical, longest_row):
            self.same(call(plan, ()), ())
            self.same(call(plan, []), ())
        self.same((time_of(plan, ()), how_many_longest(plan, ()), most_at_once(plan, ())), (0, 1, 0))
        self.same((at_work(plan, (), 0), is_longest_row(plan, (), ())), ((), True))

    def test_one_work(self):
        plan = Plan.of("a")
        self.same((time_of(plan, (7,)), begins(plan, (7,)), ends(plan, (7,))), (7, (0,), (7,)))
        self.same((longest_row(plan, (7,)), how_many_longest(plan, (7,)), critical(plan, (7,))), (("a",), 1, ("a",)))
        self.same((how_many_longest(plan, (0,)), critical(plan, (0,)), most_at_once(plan, (0,))), (2, ("a",), 0))

    def test_begins_and_ends(self):
        for plan, durations in all_cases():
            told = spans(plan, durations)
            self.same(begins(plan, durations), tuple(told[name][0] for name in plan.works))
            self.same(ends(plan, durations), tuple(told[name][1] for name in plan.works))

    def test_time_is_that_of_the_longest_row(self):
        for plan, durations in all_cases():
            self.same(time_of(plan, durations), time_by_rows(plan, durations))
            self.same(time_of(turned(plan), durations), time_by_rows(plan, durations))

    def test_latest_begins(self):
        for plan, durations in all_cases(2):
            time, late = time_of(plan, durations), latest_begins(plan, durations)
            for name, moment in zip(plan.works, late):
                for other, stays in ((moment, True), (moment + 1, False)):
                    told = spans(plan, durations, {name: other})
                    self.assertIs(max(stop for _, stop in told.values()) == time, stays)

    def test_slacks(self):
        for plan, durations in all_cases():
            pairs = zip(latest_begins(plan, durations), begins(plan, durations))
            self.same(slacks(plan, durations), tuple(late - start for late, start in pairs))
            self.assertGreaterEqual(min(slacks(plan, durations), default=0), 0)

    def test_great_numbers(self):
        plan, great = Plan.of("a b c; a b"), 10 ** 30
        self.same(time_of(plan, (0, great, 0)), great)
        self.same(begins(plan, (great, 0, 0)), (0, great, 0))
        self.same(slacks(plan, (great - 1, 0, 1)), (0, 0, great - 2))
        self.same(time_of(plan, (great, great, great)), 2 * great)

    def test_ten_works_in_a_row(self):
        works = tuple("abcdefghij")
        plan = Plan(works, tuple(zip(works, works[1:])))
        durations = tuple(range(10))
        self.same(time_of(plan, durations), 45)
        self.same(begins(plan, durations), (0, 0, 1, 3, 6, 10, 15, 21, 28, 36))
        self.same((how_many_longest(plan, durations), how_many_longest(plan, (0,) * 10)), (2, 1024))
        self.same(longest_row(plan, (1,) * 10), works)


class Longest(Case):
    def test_longest_row(self):
        for plan, durations in all_cases():
            found = longest_row(plan, durations)
            self.assertIn(found, longest_rows(plan, durations))
            self.same(is_longest_row(plan, durations, found), True)
            self.same(longest_row(plan, list(durations)), found)

    def test_how_many_longest(self):
        for plan, durations in all_cases():
            self.same(how_many_longest(plan, durations), len(longest_rows(plan, durations)))
        for plan in LARGE:
            self.same(how_many_longest(plan, (0,) * len(plan)), len(rows(plan)))

    def test_critical(self):
        for plan, durations in all_cases():
            named = {name for row in longest_rows(plan, durations) for name in row}
            self.same(critical(plan, durations), tuple(sorted(named)))

    def test_is_longest_row(self):
        for plan, durations in all_cases(2):
            told = longest_rows(plan, durations)
            for some in subsets(plan.works):
                self.same(is_longest_row(plan, durations, some), some in told)

    def test_a_work_that_lasts_nothing_may_be_in_it(self):
        plan = Plan.of("a b c; a b; b c")
        for row in (("a", "c"), ("a", "b", "c")):
            self.same(is_longest_row(plan, (2, 0, 3), row), True)
        self.same(how_many_longest(plan, (2, 0, 3)), 2)

    def test_no_set_of_works(self):
        plan, durations = Plan.of("a b c; a b; b c"), (1, 1, 0)
        self.same(is_longest_row(plan, durations, ("a", "b")), True)
        for thing in (
            ["a", "b"], ("b", "a"), ("a", "a", "b"), ("a", "b", "b"), ("a", "b", "z"), ("a", "b", 0), ("a", "b", None),
            ("a", "b", ()), (("a", "b"),), (("a",), ("b",)), (["a"], ["b"]), "ab", "a b", ("ab",), ("a", "b", "c", "c"),
            ("a", ["b"]), ("b", "c"), (), ("c", "a", "b"), nested(11, ("a", "b")), ("a", "b") * 400,
        ):
            self.same(is_longest_row(plan, durations, thing), False)

    def test_any_thing(self):
        for plan, durations in ((Plan(()), ()), (Plan.of("a"), (0,)), (Plan.of("a b; b a"), (0, 0)), (HOUSE, (0,) * 4)):
            told = longest_rows(plan, durations)
            for thing in THINGS:
                expected = type(thing) is tuple and thing in told
                self.same(is_longest_row(plan, durations, thing), expected)
                self.same(is_longest_row(plan=plan, durations=list(durations), thing=thing), expected)

    def test_side_by_side_is_no_row(self):
        self.same(is_longest_row(Plan.of("a b"), (1, 0), ("a", "b")), False)
        self.same(is_longest_row(Plan.of("a b"), (1, 0), ("a",)), True)


class AtWork(Case):
    def test_at_work(self):
        for plan, durations in all_cases():
            told = spans(plan, durations)
            moments = {0, -1, 10 ** 30, -10 ** 30} | {x + d for span in told.values() for x in span for d in (-1, 0, 1)}
            for moment in moments:
                some = tuple(name for name in plan.works if told[name][0] <= moment < told[name][1])
                self.same(at_work(plan, durations, moment), some)

    def test_edges(self):
        plan = Plan.of("a b; a b")
        told = [at_work(plan, (2, 3), moment) for moment in (-1, 0, 1, 2, 4, 5)]
        self.same(told, [(), ("a",), ("a",), ("b",), ("b",), ()])
        self.same([at_work(plan, (0, 1), moment) for moment in (0, 1)], [("b",), ()])

    def test_most_at_once(self):
        for plan, durations in all_cases():
            told = spans(plan, durations)
            most = max([len(at_work(plan, durations, start)) for start, _ in told.values()] + [0])
            self.same(most_at_once(plan, durations), most)
        for plan in SMALL:
            for durations in ((0, 1, 2)[:len(plan)], (2, 2, 1)[:len(plan)]):
                most = max(len(at_work(plan, durations, moment)) for moment in range(8))
                self.same(most_at_once(plan, durations), most)


class Asked(Case):
    def test_lists_names_and_twice(self):
        calls = (time_of, begins, ends, latest_begins, slacks, longest_row, how_many_longest, critical, most_at_once)
        for plan, durations in all_cases(2):
            given = list(durations)
            for call in calls:
                result = call(plan, durations)
                self.same(call(plan, durations), result)
                self.same(call(plan, given), result)
                self.same(call(durations=durations, plan=plan), result)
            moment = time_of(plan, durations) // 2
            self.same(at_work(moment=moment, plan=plan, durations=given), at_work(plan, durations, moment))
            self.assertEqual(given, list(durations))

    def test_the_plan_stays(self):
        for plan, durations in all_cases(1):
            copy = Plan(plan.works, plan.pairs)
            longest_row(plan, durations)
            how_many_longest(plan, durations)
            latest_begins(plan, durations)
            self.assertEqual(plan, copy)


if __name__ == "__main__":
    unittest.main()
