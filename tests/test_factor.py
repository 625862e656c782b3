"""Point [7]: how many times as long."""

import itertools
import math
import unittest

from lateplans.errors import OtherWorks
from lateplans.factor import (
    as_long, durations_against, factor, is_durations_against, is_lot_against, is_partings, lot_against, partings,
    row_and_side,
)
from lateplans.plans import Plan, beside, turned
from tests.asserts import Case, shown
from tests.oracle import (
    THINGS, bits_durations, every_plan, great, lots, nested, partings_of, rows, some_durations, some_plans, spoiled,
    subsets, time_by_rows, two_plans,
)

SMALL = [pair for many in (0, 1, 2, 3) for pair in itertools.product(every_plan(many), repeat=2)]
FOURS = list(zip(every_plan(4)[::3], every_plan(4)[::-2]))
LARGE = two_plans(3)
LINE = Plan(tuple("abcdefghij"), tuple(zip("abcdefghi", "bcdefghij")))
LOOSE = Plan(tuple("abcdefghij"))
UNLIKE = [(Plan(()), Plan.of("a")), (Plan.of("a b"), Plan.of("a c")), (Plan.of("a b; a b"), Plan.of("a b c; a b"))]


def both_kinds(one, other):
    """The sets that are a ROW of one and a LOT of other."""
    more = set(lots(other))
    return [some for some in rows(one) if some in more]


def greatest(one, other):
    return max(len(some) for some in both_kinds(one, other))


class Factor(Case):
    def test_it_is_the_greatest_row_and_lot(self):
        for one, other in SMALL + FOURS + LARGE:
            self.same(self.asked(factor, one, other), greatest(one, other))
            found = self.asked(row_and_side, one, other)
            self.assertEqual(len(found), greatest(one, other))
            self.assertIn(found, both_kinds(one, other))
            self.assertIs(type(found), tuple)

    def test_enough_for_all_small_durations_and_none_below(self):
        for one, other in SMALL + FOURS[::9] + LARGE[:3]:
            many = factor(one, other)
            times = [(time_by_rows(one, some), time_by_rows(other, some)) for some in bits_durations(one)]
            self.assertTrue(all(first <= many * second for first, second in times))
            self.assertTrue(any(first == many * second > 0 for first, second in times) or not one.works)

    def test_enough_for_durations_by_chance(self):
        for one, other in LARGE:
            for durations in some_durations(one, 8):
                self.assertLessEqual(time_by_rows(one, durations), factor(one, other) * time_by_rows(other, durations))

    def test_edges(self):
        none = Plan(())
        self.same((factor(none, none), row_and_side(none, none)), (0, ()))
        self.same((factor(Plan.of("a"), Plan.of("a")), row_and_side(Plan.of("a"), Plan.of("a"))), (1, ("a",)))
        self.same((factor(LINE, LOOSE), factor(LOOSE, LINE), factor(LINE, LINE)), (10, 1, 1))
        self.same(row_and_side(LINE, LOOSE), LINE.works)
        for one, other in LARGE:
            self.same(factor(turned(one), other), factor(one, turned(other)))

    def test_other_works(self):
        calls = (
            (factor,), (row_and_side,), (lot_against, 0), (lot_against, 99), (is_lot_against, 0, ("a",)),
            (partings, 0), (partings, 3), (is_partings, 0, ()), (is_partings, 0, None), (durations_against, 0),
            (is_durations_against, 0, (1,)), (is_durations_against, 0, None), (as_long, (1,)), (as_long, ()),
            (as_long, (0, 0)),
        )
        for one, other in UNLIKE + [(LINE, beside(LINE, Plan.of("k")))]:
            for call, *rest in calls:
                self.denied(OtherWorks, {}, call, one, other, *rest)
                self.denied(OtherWorks, {}, call, other, one, *rest)


class LotAgainst(Case):
    def test_lot_against(self):
        for one, other in SMALL[::3] + FOURS[::9] + LARGE:
            most = greatest(one, other)
            for number in list(range(most + 3)) + [10 ** 30]:
                found = self.asked(lot_against, one, other, number)
                if number >= most:
                    self.same(found, None)
                else:
                    self.assertEqual(len(found), number + 1)
                    self.assertIn(found, both_kinds(one, other))
                    self.same(self.asked(is_lot_against, one, other, number, found), True)

    def test_is_lot_against(self):
        for one, other in SMALL[::2] + FOURS[::9] + LARGE[:2]:
            told = both_kinds(one, other)
            for some in subsets(one.works):
                for number in (0, 1, 2, 3, 10 ** 30):
                    right = some in told and len(some) == number + 1
                    self.same(is_lot_against(one, other, number, some), right)

    def test_any_thing(self):
        cases = (
            (Plan(()), Plan(()), 0), (Plan.of("a"), Plan.of("a"), 0), (Plan.of("a b; a b"), Plan.of("a b"), 1),
            (Plan.of("a b"), Plan.of("a b"), 1),
        )
        for one, other, number in cases:
            right = {shown(some) for some in both_kinds(one, other) if len(some) == number + 1}
            for thing in THINGS + spoiled(("a", "b")) + [("b", "a"), nested(11, ("a", "b"))]:
                self.same(self.asked(is_lot_against, one, other, number, thing), shown(thing) in right)


class Partings(Case):
    def right(self, one, other, number):
        """All tuples that partings may tell."""
        kind = set(rows(other))
        choices = [
            [(row, parting) for parting in partings_of(row) if len(parting) <= number and kind.issuperset(parting)]
            for row in great(rows(one))
        ]
        return list(itertools.product(*choices))

    def test_partings(self):
        for one, other in SMALL[::2] + FOURS[::5] + LARGE:
            most, kind = greatest(one, other), set(rows(other))
            for number in list(range(most + 2)) + [10 ** 30]:
                found = self.asked(partings, one, other, number)
                if number < most:
                    self.same(found, None)
                    continue
                self.assertIs(type(found), tuple)
                self.same([row for row, _ in found], great(rows(one)))
                for row, parting in found:
                    self.assertLessEqual(len(parting), number)
                    self.assertTrue(kind.issuperset(parting))
                    self.same(parting, tuple(sorted(parting)))
                    self.assertEqual(sorted(sum(parting, ())), list(row))
                self.same(self.asked(is_partings, one, other, number, found), True)

    def test_edges(self):
        none = Plan(())
        self.same(partings(none, none, 0), (((), ()),))
        self.same(partings(none, none, 5), (((), ()),))
        self.same((partings(Plan.of("a"), Plan.of("a"), 0), partings(LINE, LOOSE, 9)), (None, None))
        self.same(partings(LINE, LOOSE, 10), ((LINE.works, tuple((name,) for name in LINE.works)),))

    def test_is_partings(self):
        for one, other in SMALL[::5] + FOURS[::20]:
            for number in (0, 1, 2, 3):
                right = self.right(one, other, number)
                told = {shown(thing) for thing in right}
                for thing in right:
                    self.same(is_partings(one, other, number, thing), True)
                wide = self.right(one, other, 4)
                for thing in wide:
                    self.same(is_partings(one, other, number, thing), shown(thing) in told)
                for thing in spoiled(wide[0]):
                    self.same(is_partings(one, other, number, thing), shown(thing) in told)

    def test_any_thing(self):
        for one, other in ((Plan(()), Plan(())), (Plan.of("a"), Plan.of("a")), (Plan.of("a b; a b"), Plan.of("a b"))):
            for number in (0, 1, 2):
                told = {shown(thing) for thing in self.right(one, other, number)}
                for thing in THINGS + [(((), ()),), ((("a",), (("a",),)),), (((), ((),)),)]:
                    self.same(self.asked(is_partings, one, other, number, thing), shown(thing) in told)


class Durations(Case):
    def test_durations_against(self):
        for one, other in SMALL[::2] + FOURS[::5] + LARGE:
            most = greatest(one, other)
            for number in list(range(most + 2)) + [10 ** 30]:
                found = self.asked(durations_against, one, other, number)
                if number >= most:
                    self.same(found, None)
                else:
                    self.assertGreater(time_by_rows(one, found), number * time_by_rows(other, found))
                    self.assertEqual(len(found), len(one))
                    self.assertTrue(all(type(lasts) is int and lasts >= 0 for lasts in found))
                    self.same(self.asked(is_durations_against, one, other, number, found), True)

    def test_is_durations_against(self):
        for one, other in SMALL[::2] + FOURS[::9]:
            for thing in bits_durations(one) + some_durations(one, 3):
                for number in (0, 1, 2):
                    right = time_by_rows(one, thing) > number * time_by_rows(other, thing)
                    self.same(is_durations_against(one, other, number, thing), right)

    def test_any_thing(self):
        one, other = Plan.of("a b; a b"), Plan.of("a b")
        for thing in THINGS + spoiled((1, 1)) + spoiled((0, 10 ** 60)) + [(1,), (1, 1, 1), (1, -1), (True, 1)]:
            for number in (0, 1):
                right = (
                    type(thing) is tuple and len(thing) == 2 and all(type(lasts) is int and lasts >= 0 for lasts in thing)
                    and sum(thing) > number * max(thing)
                )
                self.same(self.asked(is_durations_against, one, other, number, thing), right)
        for thing in THINGS:
            self.same(is_durations_against(Plan(()), Plan(()), 0, thing), False)

    def test_as_long(self):
        for one, other in SMALL[::3] + LARGE:
            for durations in some_durations(one, 3):
                top, bottom = time_by_rows(one, durations), time_by_rows(other, durations)
                found = self.asked(as_long, one, other, durations)
                if bottom == 0:
                    self.same(found, None)
                else:
                    self.assertEqual(found[0] * bottom, found[1] * top)
                    self.assertGreaterEqual(found[1], 1)
                    self.assertEqual(math.gcd(*found), 1)
                    self.same(found, tuple(found))

    def test_as_long_edges(self):
        one, other = Plan.of("a b c; a b; b c"), Plan.of("a b c")
        self.same(as_long(Plan(()), Plan(()), ()), None)
        self.same(as_long(one, other, (0, 0, 0)), None)
        self.same(as_long(one, other, (4, 6, 0)), (5, 3))
        self.same(as_long(one, other, (10 ** 30 - 1, 1, 0)), (10 ** 30, 10 ** 30 - 1))
        self.same(as_long(other, one, (10 ** 29,) * 3), (1, 3))

    def test_as_long_with_another_number_of_durations(self):
        for plan in (Plan.of("a b"), Plan.of("a b; a b")):
            for durations in ((), (0,), (1, 2, 3), (0, 0, 0)):
                self.denied(OtherWorks, {}, as_long, plan, Plan.of("a b"), durations)
        self.denied(OtherWorks, {}, as_long, Plan(()), Plan(()), (0,))


class Guarantees(Case):
    def test_three_plans(self):
        for plans in zip(some_plans(4), some_plans(4, seed=21), some_plans(4, seed=22)):
            for one, other, third in itertools.permutations(plans):
                self.assertLessEqual(factor(one, third), factor(one, other) * factor(other, third))

    def test_turned_about(self):
        for one, other in SMALL[::4] + LARGE:
            self.same((factor(one, turned(one)), factor(turned(one), other)), (int(len(one) > 0), factor(one, other)))


if __name__ == "__main__":
    unittest.main()
