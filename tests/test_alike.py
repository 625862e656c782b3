"""Point [8]: never longer, and alike."""

import itertools
import unittest

from lateplans.alike import (
    all_alike, alike, forced, how_many_alike, is_longer_at, longer_at, never_longer,
)
from lateplans.errors import NoWork, OtherWorks
from lateplans.plans import Plan, all_waits, behind, beside, turned
from tests.asserts import Case, shown
from tests.oracle import (
    THINGS, alike_waits, bits_durations, closure, count_alike, every_plan, mates, nested, some_durations, some_plans,
    spoiled, time_by_rows, two_plans,
)

SMALL = [pair for many in (0, 1, 2, 3) for pair in itertools.product(every_plan(many), repeat=2)]
FOURS = list(zip(every_plan(4)[::3], every_plan(4)[::-2]))
LARGE = two_plans(4)
LINE = Plan(tuple("abcdefghij"), tuple(zip("abcdefghi", "bcdefghij")))
LOOSE = Plan(tuple("abcdefghij"))


def longer_pairs(one, other):
    return sorted((x, y) for x, y in mates(one) - mates(other) if x < y)


class NeverLonger(Case):
    def test_by_the_pairs_in_a_row(self):
        for one, other in SMALL + FOURS + LARGE:
            told = longer_pairs(one, other)
            self.same(self.asked(never_longer, one, other), told == [])
            self.same(self.asked(alike, one, other), mates(one) == mates(other))
            self.same(self.asked(longer_at, one, other), told[0] if told else None)

    def test_by_all_durations_of_0_and_1(self):
        for one, other in SMALL + FOURS[::9]:
            times = [(time_by_rows(one, some), time_by_rows(other, some)) for some in bits_durations(one)]
            self.same(never_longer(one, other), all(first <= second for first, second in times))
            self.same(alike(one, other), all(first == second for first, second in times))

    def test_with_more_pairs_it_is_never_shorter(self):
        for plan in some_plans(3):
            less = Plan(plan.works, plan.pairs[::2])
            self.same(never_longer(less, plan), True)
            for durations in some_durations(plan, 5):
                self.assertLessEqual(time_by_rows(less, durations), time_by_rows(plan, durations))

    def test_turned_about(self):
        for one, other in SMALL[::3] + LARGE:
            self.same((alike(one, turned(one)), longer_at(turned(one), one)), (True, None))
            self.same(never_longer(turned(one), other), never_longer(one, other))

    def test_both_last_1(self):
        for one, other in LARGE:
            pair = longer_at(one, other)
            if pair is not None:
                durations = tuple(int(name in pair) for name in one.works)
                self.assertEqual((time_by_rows(one, durations), time_by_rows(other, durations)), (2, 1))

    def test_is_longer_at(self):
        for one, other in SMALL[::2] + LARGE[::2]:
            told = longer_pairs(one, other)
            for pair in itertools.product(one.works + ("z",), repeat=2):
                self.same(is_longer_at(one, other, pair), pair in told)

    def test_any_thing(self):
        cases = ((Plan(()), Plan(())), (Plan.of("a b; b a"), Plan.of("a b")), (Plan.of("a b"), Plan.of("a b; b a")))
        for one, other in cases:
            told = {shown(pair) for pair in longer_pairs(one, other)}
            for thing in THINGS + spoiled(("a", "b")) + [("b", "a"), ["a", "b"], nested(11, ("a", "b"))]:
                self.same(self.asked(is_longer_at, one, other, thing), shown(thing) in told)

    def test_edges(self):
        self.same((never_longer(Plan(()), Plan(())), longer_at(Plan(()), Plan(()))), (True, None))
        self.same((never_longer(LOOSE, LINE), never_longer(LINE, LOOSE), longer_at(LINE, LOOSE)), (True, False, ("a", "b")))

    def test_other_works(self):
        for one, other in ((Plan(()), Plan.of("a")), (Plan.of("a b"), Plan.of("a c")), (LINE, Plan.of("a"))):
            for call in (never_longer, alike, longer_at):
                self.denied(OtherWorks, {}, call, one, other)
                self.denied(OtherWorks, {}, call, other, one)
            for thing in THINGS + [("a", "b")]:
                self.denied(OtherWorks, {}, is_longer_at, one, other, thing)


class AllAlike(Case):
    def check(self, plan):
        told = sorted(tuple(sorted(waits)) for waits in alike_waits(plan))
        found = self.asked(all_alike, plan)
        self.same([own.pairs for own in found], told)
        self.assertTrue(all(own.works == plan.works and all_waits(own) == own.pairs for own in found))
        self.same(self.asked(how_many_alike, plan), len(told))

    def test_small_plans(self):
        for many in (0, 1, 2, 3):
            for plan in every_plan(many):
                self.check(plan)
        for plan in every_plan(4)[::4]:
            self.check(plan)

    def test_five_and_six_works(self):
        for plan in some_plans(6, sizes=(5, 6)):
            self.check(plan)

    def test_tangled_plans(self):
        for many, text in (
            (4, "ab cb cd"), (5, "ab cb cd ae be ce de"), (6, "ab cb cd ce df"), (6, "ad ae be bf cf cd"),
            (6, "ab cb cd ce fb"), (5, "ba bc dc de"), (6, "ac bc bd be cf ef"), (6, "ab cb cd eb ed af"),
        ):
            plan = Plan(tuple("abcdef"[:many]), text.split())
            self.check(plan)
            self.check(turned(plan))

    def test_how_many_of_large_plans(self):
        for plan in some_plans(6, sizes=(7, 8, 9, 10), seed=31):
            told = how_many_alike(plan)
            if told <= 3000:
                self.same(told, count_alike(plan))

    def test_millions(self):
        self.same((how_many_alike(LINE), how_many_alike(LOOSE)), (3628800, 1))
        five = Plan(tuple("abcde"), tuple(zip("abcd", "bcde")))
        more = Plan(tuple("fghij"), tuple(zip("fghi", "ghij")))
        self.same((how_many_alike(beside(five, more)), how_many_alike(behind(five, more))), (14400, 3628800))
        loose = Plan(tuple("fghij"))
        self.same((how_many_alike(behind(five, loose)), how_many_alike(beside(five, loose))), (720, 120))
        tangle = Plan.of("f g h i j; f g; h g; h i; j i")
        self.same((how_many_alike(beside(five, tangle)), how_many_alike(behind(five, tangle))), (240, 1440))

    def test_a_tangle_in_a_tangle(self):
        plan = Plan(tuple("abcdefgh"), "ae af ag ah ce cf cg ch cd ef gf gh".split())
        self.same((how_many_alike(plan), count_alike(plan)), (4, 4))
        plan = Plan(tuple("abcdefghij"), "ae af ag ah ce cf cg ch cd ef gf gh ij".split())
        self.same((how_many_alike(plan), count_alike(plan)), (8, 8))

    def test_the_returned_list_is_the_callers(self):
        plan = Plan.of("a b c; a b; b c")
        found = all_alike(plan)
        found.clear()
        self.same(len(all_alike(plan)), 6)

    def test_no_needless_pairs_are_asked_for(self):
        plan = Plan.of("a b c; a b; b c")
        self.assertNotIn(plan, all_alike(plan))
        self.assertIn(Plan.of("a b c; a b; a c; b c"), all_alike(plan))


class Forced(Case):
    def check(self, plan):
        every = alike_waits(plan)
        for one, other in itertools.product(plan.works, repeat=2):
            if (one, other) not in mates(plan):
                self.same(forced(plan, one, other), ())
                continue
            told = set.intersection(*[waits for waits in every if (one, other) in waits])
            self.same(self.asked(forced, plan, one, other), tuple(sorted(told)))

    def test_in_each_alike_plan(self):
        for many in (1, 2, 3):
            for plan in every_plan(many):
                self.check(plan)
        for plan in every_plan(4)[::6] + some_plans(5, sizes=(5, 6)):
            self.check(plan)

    def test_chains(self):
        for plan in some_plans(2, sizes=(8, 10)):
            pairs = mates(plan)
            for one, other in sorted(pairs)[::5]:
                found, left = {(one, other)}, [(one, other)]
                while left:
                    x, y = left.pop()
                    more = [(x, z) for z in plan.works if (z, x) in pairs and (z, y) not in pairs]
                    more += [(z, y) for z in plan.works if (z, y) in pairs and (z, x) not in pairs]
                    left += [pair for pair in more if pair not in found]
                    found.update(more)
                self.same(forced(plan, one, other), tuple(sorted(found)))

    def test_both_directions(self):
        plan = Plan.of("a b c d; a c; b c; b d")
        self.same(forced(plan, "c", "a"), (("c", "a"), ("c", "b"), ("d", "b")))
        self.same(forced(plan, "a", "c"), (("a", "c"), ("b", "c"), ("b", "d")))
        self.same(len(closure(forced(plan, "d", "b"))), 3)

    def test_not_in_a_row(self):
        self.same((forced(LOOSE, "a", "b"), forced(LINE, "a", "a"), forced(LINE, "j", "a")), ((), (), (("j", "a"),)))

    def test_no_work(self):
        plan = Plan.of("a b c; a b")
        for one, other, name in (("z", "a", "z"), ("a", "z", "z"), ("zz", "z", "zz"), ("c", "d", "d"), ("y", "y", "y")):
            self.denied(NoWork, {"name": name}, forced, plan, one, other)
        self.denied(NoWork, {"name": "a"}, forced, Plan(()), "a", "b")


if __name__ == "__main__":
    unittest.main()
