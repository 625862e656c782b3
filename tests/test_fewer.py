"""Point [12]: fewer pairs, or more."""

import itertools
import random
import unittest

from lateplans.errors import NoWork, OtherWorks
from lateplans.factor import factor
from lateplans.fewer import fewest_left_out, fewest_put_in, helping_pairs, telling_pairs
from lateplans.plans import Plan
from tests.asserts import Case
from tests.oracle import every_plan, goes_round, lots, rows, some_plans, subsets, two_plans

SMALL = [pair for many in (0, 1, 2, 3) for pair in itertools.product(every_plan(many), repeat=2)]
FOURS = list(zip(every_plan(4)[::9], every_plan(4)[::-11]))
LARGE = two_plans(2)
LINE = Plan(tuple("abcdefghij"), tuple(zip("abcdefghi", "bcdefghij")))
LOOSE = Plan(tuple("abcdefghij"))


def few_pairs(plan):
    return Plan(plan.works, plan.pairs[:8])


def slow_factor(one, other):
    more = set(lots(other))
    return max(len(some) for some in rows(one) if some in more)


def left_out(one, other, number):
    """The first set of PAIRS, by how many and then by comparison, that is enough."""
    for some in subsets(one.pairs):
        rest = tuple(pair for pair in one.pairs if pair not in some)
        if slow_factor(Plan(one.works, rest), other) <= number:
            return some
    return None


def put_in(one, other, number, offers):
    for some in subsets(tuple(sorted(set(offers)))):
        if not goes_round(other.pairs + some) and slow_factor(one, Plan(other.works, other.pairs + some)) <= number:
            return some
    return None


def some_offers(plan, many, seed=23):
    """Tuples of pairs of works, one work twice and the same pair twice among them, in no order."""
    chance, found = random.Random(seed), [()]
    offers = list(itertools.product(plan.works, repeat=2))
    for _ in range(many if offers else 0):
        found.append(tuple(chance.choice(offers) for _ in range(chance.randint(1, 8))))
    return found


class LeftOut(Case):
    def test_fewest_left_out(self):
        for one, other in SMALL[::2] + FOURS + [(few_pairs(one), other) for one, other in LARGE[::2]]:
            for number in range(-1, factor(one, other) + 2):
                self.same(self.asked(fewest_left_out, one, other, number), left_out(one, other, number))

    def test_edges(self):
        none = Plan(())
        self.same([fewest_left_out(none, none, number) for number in (-1, 0, 1)], [None, (), ()])
        eight = Plan(LINE.works, LINE.pairs[:8])
        self.same(fewest_left_out(eight, LOOSE, 1), LINE.pairs[:8])
        self.same(fewest_left_out(eight, LOOSE, 3), (("c", "d"), ("f", "g")))
        self.same((fewest_left_out(eight, LOOSE, 9), fewest_left_out(eight, LOOSE, 10 ** 30)), ((), ()))
        self.same((fewest_left_out(eight, LOOSE, 0), fewest_left_out(eight, LOOSE, -10 ** 30)), (None, None))

    def test_the_least_of_several(self):
        one = Plan.of("a b c; a b; a c; b c")
        self.same(fewest_left_out(one, Plan.of("a b c"), 2), (("a", "b"),))
        self.same(fewest_left_out(one, Plan.of("a b c; a b"), 1), (("a", "c"), ("b", "c")))
        self.same(fewest_left_out(Plan.of("a b c; a b; b c"), Plan.of("a b c"), 2), (("a", "b"),))


class PutIn(Case):
    def test_fewest_put_in(self):
        for one, other in SMALL[::3] + FOURS[::2] + LARGE[::6]:
            for offers in some_offers(other, 2, seed=len(one.pairs)):
                for number in range(-1, factor(one, other) + 1):
                    told = put_in(one, other, number, offers)
                    self.same(self.asked(fewest_put_in, one, other, number, offers), told)

    def test_edges(self):
        none = Plan(())
        self.same([fewest_put_in(none, none, number, ()) for number in (-1, 0, 1)], [None, (), ()])
        self.same(fewest_put_in(LINE, LOOSE, 9, (("b", "a"), ("a", "b"))), (("a", "b"),))
        self.same(fewest_put_in(LINE, LOOSE, 9, (("b", "a"), ("b", "b"))), (("b", "a"),))
        self.same(fewest_put_in(LINE, LOOSE, 9, (("b", "b"),)), None)
        self.same(fewest_put_in(LINE, LOOSE, 2, LINE.pairs[:8]), LINE.pairs[:8])
        self.same(fewest_put_in(LINE, LOOSE, 1, LINE.pairs[:8]), None)
        self.same(fewest_put_in(LINE, LOOSE, 10 ** 30, LINE.pairs[:8]), ())
        self.same(fewest_put_in(LOOSE, LINE, 1, (("j", "a"),)), ())
        self.same(fewest_put_in(LOOSE, LINE, 0, (("j", "a"),)), None)

    def test_pairs_that_close_a_round(self):
        one, other = Plan.of("a b c; a b; b c"), Plan.of("a b c; a b")
        self.same(fewest_put_in(one, other, 1, (("b", "a"), ("b", "c"), ("c", "a"))), (("b", "c"),))
        self.same(fewest_put_in(one, Plan.of("a b c; a c"), 1, (("b", "c"), ("a", "b"))), (("a", "b"), ("b", "c")))
        self.same(fewest_put_in(one, Plan.of("a b c; a c"), 1, (("a", "b"), ("b", "c"), ("c", "b"))), (("c", "b"),))

    def test_a_pair_that_is_there_already(self):
        one, other = Plan.of("a b c; a b; b c"), Plan.of("a b c; a b")
        self.same(fewest_put_in(one, other, 1, (("a", "b"), ("b", "c"))), (("b", "c"),))
        self.same(fewest_put_in(one, other, 2, (("a", "b"),)), ())

    def test_no_work(self):
        one, other = Plan.of("a b; a b"), Plan.of("a b")
        for offers, name in (
            ((("a", "q"),), "q"), ((("a", "b"), ("z", "y")), "z"), ((("a", "b"), ("b", "y"), ("z", "a")), "y"),
            ((("x", "x"),), "x"), ((("b", "a"), ("a", "")), ""),
        ):
            for number in (-1, 0, 1, 2):
                self.denied(NoWork, {"name": name}, fewest_put_in, one, other, number, offers)
        self.denied(NoWork, {"name": "a"}, fewest_put_in, Plan(()), Plan(()), 0, (("a", "a"),))


class SinglePairs(Case):
    def test_telling_pairs(self):
        for one, other in SMALL + FOURS + LARGE:
            most = slow_factor(one, other)
            told = tuple(
                pair for pair in one.pairs
                if slow_factor(Plan(one.works, tuple(own for own in one.pairs if own != pair)), other) < most
            )
            self.same(self.asked(telling_pairs, one, other), told)

    def test_helping_pairs(self):
        for one, other in SMALL + FOURS + LARGE[::2]:
            most = slow_factor(one, other)
            told = tuple(
                pair for pair in itertools.permutations(other.works, 2)
                if not goes_round(other.pairs + (pair,))
                and slow_factor(one, Plan(other.works, other.pairs + (pair,))) < most
            )
            self.same(self.asked(helping_pairs, one, other), told)

    def test_edges(self):
        none = Plan(())
        self.same((telling_pairs(none, none), helping_pairs(none, none)), ((), ()))
        self.same((telling_pairs(LINE, LOOSE), telling_pairs(LINE, LINE)), (LINE.pairs, ()))
        self.same((helping_pairs(LINE, LOOSE), helping_pairs(LOOSE, LOOSE)), (tuple(itertools.permutations("abcdefghij", 2)), ()))

    def test_bounds_of_the_factor(self):
        for one, other in some_and_more():
            most = factor(one, other)
            for pair in one.pairs:
                rest = Plan(one.works, tuple(own for own in one.pairs if own != pair))
                self.assertTrue(most <= 2 * factor(rest, other) and factor(rest, other) <= most)


def some_and_more():
    return list(zip(some_plans(3), some_plans(3, seed=61)))


class Refused(Case):
    def test_other_works(self):
        one = Plan.of("a b; a b")
        for other in (Plan(()), Plan.of("a"), Plan.of("a c"), Plan.of("a b c")):
            for call, *rest in ((telling_pairs,), (helping_pairs,), (fewest_left_out, 1), (fewest_left_out, -1),
                                (fewest_put_in, 1, ()), (fewest_put_in, 1, (("z", "z"),))):
                self.denied(OtherWorks, {}, call, one, other, *rest)
                self.denied(OtherWorks, {}, call, other, one, *rest)


if __name__ == "__main__":
    unittest.main()
