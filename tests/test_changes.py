"""Point [14]: a Plan that changes."""

import random
import unittest

from lateplans.changes import Watch
from lateplans.errors import BadPair, Known, NothingDone, NoWork, OtherWorks
from lateplans.plans import Plan, all_waits, only, turned, with_pair, without_pair
from lateplans.times import begins, critical, time_of
from tests.asserts import Case
from tests.oracle import LETTERS, THINGS, closure, every_plan, goes_round, some_durations, some_plans, time_by_rows

GREAT = 10 ** 29
NAMES = LETTERS + "xyz"


class Slow:
    """The same deeds done plainly: works with how long they last, pairs, and what was there before."""

    def __init__(self, plan, durations):
        self.lasts, self.pairs = dict(zip(plan.works, durations)), set(plan.pairs)
        self.past = []

    def plan(self):
        return Plan(tuple(sorted(self.lasts)), tuple(sorted(self.pairs)))

    def durations(self):
        return tuple(lasts for _, lasts in sorted(self.lasts.items()))

    def time(self):
        return time_by_rows(self.plan(), self.durations())

    def told(self):
        return tuple(time for _, _, time in self.past) + (self.time(),)

    def refusal(self, deed, words):
        """The error that is stated, with its values; None if there is none."""
        names = {"last": words[:1], "wait": words, "free": words, "drop": words, "add": ()}[deed]
        for name in names:
            if name not in self.lasts:
                return NoWork, {"name": name}
        if deed == "add" and words[0] in self.lasts:
            return Known, {"name": words[0]}
        if deed == "wait" and tuple(words) not in self.pairs and goes_round(self.pairs | {tuple(words)}):
            return BadPair, {"place": len(self.pairs)}
        return None

    def do(self, deed, words):
        self.past.append((dict(self.lasts), set(self.pairs), self.time()))
        if deed in ("last", "add"):
            self.lasts[words[0]] = words[1]
        elif deed == "wait":
            self.pairs.add(tuple(words))
        elif deed == "free":
            self.pairs.discard(tuple(words))
        else:
            del self.lasts[words[0]]
            self.pairs = {pair for pair in closure(self.pairs) if words[0] not in pair}

    def back(self):
        self.lasts, self.pairs, _ = self.past.pop()


def state(watch):
    return (watch.plan.text, watch.durations, watch.time, watch.told, len(watch))


def random_deed(chance, names):
    deed = chance.choice(("last", "wait", "wait", "free", "add", "drop"))
    if deed in ("wait", "free"):
        return deed, [chance.choice(names), chance.choice(names)]
    number = chance.choice((0, 1, 2, 7, GREAT))
    return deed, [chance.choice(names)] + ([] if deed == "drop" else [number])


class Deeds(Case):
    def check(self, watch, slow):
        self.assertTrue(watch.plan == slow.plan())
        self.same((watch.durations, watch.time), (slow.durations(), slow.time()))
        self.same((watch.told, len(watch)), (slow.told(), len(slow.past)))

    def test_at_the_beginning(self):
        for plan in every_plan(0) + every_plan(1) + every_plan(3) + some_plans(2):
            for durations in some_durations(plan, 2):
                watch = Watch(plan, durations)
                self.check(watch, Slow(plan, durations))
                self.same((watch.told, len(watch)), ((time_by_rows(plan, durations),), 0))
                self.assertTrue(watch == Watch(durations=list(durations), plan=plan))

    def test_many_deeds(self):
        chance = random.Random(14)
        for plan in every_plan(2) + every_plan(3)[::3] + some_plans(2, sizes=(4, 5, 6)):
            durations = some_durations(plan, 2)[-1]
            watch, slow = Watch(plan, durations), Slow(plan, durations)
            names = NAMES[:len(plan) + 1] + "z"
            for _ in range(12):
                self.one_deed(watch, slow, *random_deed(chance, names))
            while slow.past:
                self.same(watch.back(), None)
                slow.back()
                self.check(watch, slow)
            self.denied(NothingDone, {}, watch.back)

    def one_deed(self, watch, slow, deed, words):
        call, wrong = getattr(watch, deed), slow.refusal(deed, words)
        if wrong is None:
            slow.do(deed, words)
            self.same(call(*words), slow.time())
        else:
            before = state(watch)
            self.denied(*wrong, call, *words)
            self.same(state(watch), before)
        self.check(watch, slow)

    def test_by_name(self):
        watch = Watch(Plan.of("a b c; a b"), (2, 3, 4))
        self.same(watch.last(number=6, name="c"), 6)
        self.same(watch.wait(other="c", one="b"), 11)
        self.same(watch.add(number=12, name="d"), 12)
        self.same(watch.free(other="b", one="a"), 12)
        self.same(watch.drop(name="d"), 9)
        self.same(watch.told, (5, 6, 11, 12, 12, 9))

    def test_deeds_that_change_nothing(self):
        watch = Watch(Plan.of("a b c; a b"), (2, 3, 4))
        for number, deed in enumerate((
            lambda: watch.last("a", 2), lambda: watch.wait("a", "b"), lambda: watch.free("a", "c"),
            lambda: watch.free("b", "a"), lambda: watch.free("c", "c"),
        ), start=1):
            self.same(deed(), 5)
            self.same((watch.plan.text, watch.durations, len(watch)), ("a b c; a b", (2, 3, 4), number))
        self.same(watch.told, (5,) * 6)
        for number in range(5)[::-1]:
            watch.back()
            self.same((watch.plan.text, watch.told), ("a b c; a b", (5,) * (number + 1)))

    def test_whoever_waited_still_waits(self):
        watch = Watch(Plan.of("a b c d e; a b; b c; b e; d b"), (1, 2, 3, 4, 5))
        self.same(watch.time, 11)
        self.same(watch.drop("b"), 9)
        self.same(watch.plan.text, "a c d e; a c; a e; d c; d e")
        self.same(watch.durations, (1, 3, 4, 5))
        self.assertTrue(watch.plan == only(Plan.of("a b c d e; a b; b c; b e; d b"), ("a", "c", "d", "e")))

    def test_drop_tells_all_waits_as_pairs(self):
        watch = Watch(Plan.of("a b c d; a b; b c"), (0, 0, 0, 0))
        watch.drop("d")
        self.same(watch.plan.text, "a b c; a b; a c; b c")

    def test_a_new_work_stands_where_it_belongs(self):
        watch = Watch(Plan.of("bb d; bb d"), (1, 2))
        for name, works, durations in (
            ("c", ("bb", "c", "d"), (1, 7, 2)), ("a", ("a", "bb", "c", "d"), (7, 1, 7, 2)),
            ("b", ("a", "b", "bb", "c", "d"), (7, 7, 1, 7, 2)), ("zzzzzzzz", None, None),
        ):
            self.same(watch.add(name, 7), 7)
            if works:
                self.same((watch.plan.works, watch.durations, watch.plan.pairs), (works, durations, (("bb", "d"),)))
        self.same(watch.plan.works[-1], "zzzzzzzz")

    def test_no_works(self):
        watch = Watch(Plan(()), ())
        self.same(state(watch), ("-", (), 0, (0,), 0))
        self.denied(NoWork, {"name": "a"}, watch.drop, "a")
        self.denied(NoWork, {"name": "a"}, watch.last, "a", 1)
        self.same(watch.add("a", GREAT), GREAT)
        self.denied(BadPair, {"place": 0}, watch.wait, "a", "a")
        self.same(watch.drop("a"), 0)
        self.same(state(watch), ("-", (), 0, (0, GREAT, 0), 2))

    def test_ten_works(self):
        watch = Watch(Plan(()), ())
        for place, name in enumerate(LETTERS):
            watch.add(name, GREAT)
            if place:
                watch.wait(LETTERS[place - 1], name)
        self.same((watch.time, len(watch)), (10 * GREAT, 19))
        self.denied(BadPair, {"place": 9}, watch.wait, "j", "a")
        for name in "bdfh":
            watch.drop(name)
        self.same((watch.time, len(watch.plan)), (6 * GREAT, 6))
        for _ in range(23):
            watch.back()
        self.same(state(watch), ("-", (), 0, (0,), 0))

    def test_what_the_functions_tell(self):
        for plan in some_plans(2):
            durations = some_durations(plan, 2)[-1]
            watch = Watch(plan, durations)
            for one, other in zip(plan.works, plan.works[2:]):
                before = watch.plan
                watch.free(one, other)
                self.assertTrue(watch.plan == without_pair(before, one, other))
                if (other, one) not in all_waits(watch.plan):
                    watch.wait(one, other)
                    self.assertTrue(watch.plan == with_pair(without_pair(before, one, other), one, other))
                self.same(watch.time, time_of(watch.plan, watch.durations))
                self.same(watch.time, time_of(turned(watch.plan), watch.durations))
                ends = [start + lasts for start, lasts in zip(begins(watch.plan, durations), durations)]
                self.same(watch.told[-1], max(ends))

    def test_a_work_that_is_not_critical(self):
        for plan in some_plans(2, sizes=(4, 6)):
            durations = some_durations(plan, 2)[-1]
            for name in plan.works:
                watch = Watch(plan, durations)
                less = watch.last(name, 0)
                self.assertTrue(less <= watch.told[0])
                if name not in critical(plan, durations):
                    self.same(less, watch.told[0])
                self.same(watch.drop(name), less)


class Refused(Case):
    def test_other_works(self):
        for plan in (Plan(()), Plan.of("a"), Plan.of("a b; a b"), Plan.of("a b c")):
            for many in range(6):
                if many != len(plan):
                    self.denied(OtherWorks, {}, Watch, plan, (1,) * many)

    def test_the_first_error_decides(self):
        watch = Watch(Plan.of("a b c; a b"), (2, 3, 4))
        before = state(watch)
        for kind, values, call, words in (
            (NoWork, {"name": "x"}, watch.wait, ("x", "y")), (NoWork, {"name": "y"}, watch.wait, ("a", "y")),
            (NoWork, {"name": "x"}, watch.wait, ("x", "x")), (BadPair, {"place": 1}, watch.wait, ("b", "a")),
            (BadPair, {"place": 1}, watch.wait, ("c", "c")), (NoWork, {"name": "x"}, watch.free, ("x", "y")),
            (NoWork, {"name": "y"}, watch.free, ("b", "y")), (NoWork, {"name": "d"}, watch.last, ("d", 0)),
            (NoWork, {"name": "aa"}, watch.drop, ("aa",)), (Known, {"name": "b"}, watch.add, ("b", 3)),
        ):
            self.denied(kind, values, call, *words)
            self.same(state(watch), before)
        self.denied(NothingDone, {}, watch.back)
        self.same(state(watch), before)

    def test_a_refused_deed_is_not_taken_back(self):
        watch = Watch(Plan.of("a b"), (1, 2))
        watch.wait("a", "b")
        self.refused(BadPair, {"place": 1}, watch.wait, "b", "a")
        self.refused(Known, {"name": "a"}, watch.add, "a", 9)
        watch.back()
        self.same(state(watch), ("a b", (1, 2), 2, (2,), 0))

    def test_iteration(self):
        for watch in (Watch(Plan(()), ()), Watch(Plan.of("a b"), (1, 2))):
            self.assertRaises(TypeError, iter, watch)
            self.assertRaises(TypeError, list, watch)

    def test_properties_have_no_setters(self):
        watch = Watch(Plan.of("a"), (1,))
        for name in ("plan", "durations", "time", "told"):
            with self.assertRaises(AttributeError):
                setattr(watch, name, ())


class Alone(Case):
    def test_equal(self):
        one, other = Watch(Plan.of("a b"), (1, 2)), Watch(Plan.of("a b"), [1, 2])
        self.assertTrue(one == other and not one != other)
        one.wait("a", "b")
        self.assertTrue(one != other and not one == other)
        other.wait("a", "b")
        self.assertTrue(one == other)
        one.last("a", 1)
        self.assertFalse(one == other)
        one.back()
        self.assertTrue(one == other)
        self.assertFalse(Watch(Plan.of("a b"), (1, 2)) == Watch(Plan.of("a b"), (2, 1)))
        self.assertFalse(Watch(Plan.of("a b"), (2, 1)) == Watch(Plan.of("a c"), (2, 1)))
        self.assertFalse(Watch(Plan.of("a b"), (0, 0)) == Watch(Plan.of("a b; a b"), (0, 0)))
        for thing in THINGS + [Plan.of("a b; a b"), (1, 2), Watch]:
            self.assertIs(one == thing, False)
            self.assertIs(thing != one, True)

    def test_equal_by_the_times_told_alone(self):
        # Both are told the same, now the same, but came there by unlike deeds.
        one, other = Watch(Plan.of("a b"), (1, 2)), Watch(Plan.of("a b"), (2, 2))
        one.last("a", 2)
        other.free("a", "b")
        self.assertTrue(one == other)
        one.back()
        other.back()
        self.assertTrue(one != other)

    def test_unlike_times_told(self):
        one, other = Watch(Plan.of("a b"), (9, 2)), Watch(Plan.of("a b"), (7, 2))
        one.last("a", 1)
        other.last("a", 1)
        self.same((one.plan.text, one.durations, one.time), (other.plan.text, other.durations, other.time))
        self.assertTrue(one != other)

    def test_twin(self):
        watch = Watch(Plan.of("a b c; a b"), (2, 3, 4))
        watch.last("c", 6)
        watch.wait("b", "c")
        before = state(watch)
        mate = watch.twin()
        self.assertTrue(mate == watch and type(mate) is Watch and mate is not watch)
        self.same(state(mate), before)
        mate.drop("a")
        mate.last("b", 50)
        self.same(state(watch), before)
        for _ in range(4):
            self.same(mate.back(), None)
        self.same(state(mate), ("a b c; a b", (2, 3, 4), 5, (5,), 0))
        self.refused(NothingDone, {}, mate.back)
        self.same(state(watch), before)
        more = watch.twin()
        watch.back()
        watch.back()
        self.same((state(more), state(watch)), (before, state(mate)))

    def test_the_same_asked_twice(self):
        watch = Watch(Plan.of("a b c; a b"), (2, 3, 4))
        watch.last("c", 6)
        self.same(state(watch), state(watch))
        self.same(state(watch.twin()), state(watch.twin()))

    def test_lists_are_copied(self):
        durations = [2, 3, 4]
        watch = Watch(Plan.of("a b c; a b"), durations)
        durations[0] = 70
        durations.append(5)
        self.same((watch.durations, watch.time), ((2, 3, 4), 5))
        watch.last("a", 1)
        self.same((watch.durations, watch.time), ((1, 3, 4), 4))


if __name__ == "__main__":
    unittest.main()
