"""Point [16]: several Plans."""

import itertools
import random
import unittest

from lateplans.errors import Known, NoPlan, OtherWorks
from lateplans.plans import Plan, turned
from lateplans.ranks import Table
from tests.asserts import Case, listed
from tests.oracle import LETTERS, THINGS, bits_durations, every_plan, lots, mates, rows, some_plans, subsets, time_by_rows

ROWS = (
    ("c", Plan.of("x y z; x y")), ("a", Plan.of("x y z; x y; y z")), ("b", Plan.of("x y z")),
    ("d", Plan.of("x y z; y z; z x")), ("e", Plan.of("x y z; y z")),
)
QUESTIONS = ("all_factors", "all_pairs", "ties", "chain", "apart", "layers")
BY_NAME = ("below", "above", "next_below", "next_above")
BY_TWO = ("factor_of", "is_never_longer")


class Slow:
    """What a Table says, over all rows, lots and sets of NAMEs."""

    def __init__(self, table_rows):
        self.plans = dict(table_rows)
        self.names = tuple(sorted(self.plans))
        self.pairs = {name: mates(plan) for name, plan in self.plans.items()}

    def factor(self, name, other):
        both = set(rows(self.plans[name])) & set(lots(self.plans[other]))
        return max(len(some) for some in both)

    def never(self, name, other):
        return self.pairs[name] <= self.pairs[other]

    def is_above(self, name, other):
        return self.never(name, other) and not self.never(other, name)

    def are_tied(self, name, other):
        return self.never(name, other) and self.never(other, name)

    def below(self, name):
        return tuple(other for other in self.names if self.is_above(name, other))

    def above(self, name):
        return tuple(other for other in self.names if self.is_above(other, name))

    def next_below(self, name):
        some = self.below(name)
        return tuple(other for other in some if not any(self.is_above(mid, other) for mid in some))

    def next_above(self, name):
        some = self.above(name)
        return tuple(other for other in some if not any(self.is_above(other, mid) for mid in some))

    def ties(self):
        found = [
            some for some in subsets(self.names) if len(some) > 1
            and all(self.are_tied(one, other) for one, other in itertools.combinations(some, 2))
        ]
        return tuple(sorted(some for some in found if not any(set(some) < set(more) for more in found)))

    def chain(self):
        found = [
            order for some in subsets(self.names)
            if all(self.is_above(one, other) or self.is_above(other, one) for one, other in itertools.combinations(some, 2))
            for order in itertools.permutations(some)
            if all(self.is_above(one, other) for one, other in zip(order, order[1:]))
        ]
        return min(found, key=lambda order: (-len(order), order))

    def apart(self):
        found = [
            some for some in subsets(self.names)
            if not any(self.never(one, other) or self.never(other, one) for one, other in itertools.combinations(some, 2))
        ]
        return min(found, key=lambda some: (-len(some), some))

    def layers(self):
        found, left = [], list(self.names)
        while left:
            layer = tuple(name for name in left if not set(self.above(name)) & set(left))
            found.append(layer)
            left = [name for name in left if name not in layer]
        return found


def tables():
    """The rows of many Tables."""
    chance = random.Random(16)
    found = [(), (("one", Plan(())),), (("b", Plan(())), ("a", Plan(()))), ROWS]
    for many in (1, 2, 3, 4):
        plans = every_plan(many)
        for size in (1, 2, 3, 4, 5, 6, 8):
            names = chance.sample(LETTERS + "xyz", size)
            found.append(tuple((name, chance.choice(plans)) for name in names))
    for many in (5, 6, 10):
        plans = some_plans(5, sizes=(many,)) + some_plans(3, sizes=(many,), seed=60)
        names = chance.sample(LETTERS, 8)
        found.append(tuple(zip(names, plans)))
        found.append(tuple(zip(names, plans[:4] + [turned(plan) for plan in plans[:4]])))
    works = tuple(LETTERS)
    line = [(one, other) for place, one in enumerate(works) for other in works[place + 1:]]
    chain = [Plan(works, line[:many]) for many in (0, 9, 17, 24, 24, 30, 44, 45)]
    found.append(tuple(zip(LETTERS[:8], chain)))
    found.append(tuple(zip(LETTERS[:8][::-1], chain)))
    found.append(tuple((name, Plan(works)) for name in LETTERS[:8]))
    found.append(tuple((name, Plan(works, (pair,))) for name, pair in zip(LETTERS, line[:8])))
    return found


def shown(table):
    return [getattr(table, word)() for word in QUESTIONS]


class Asked(Case):
    def test_all_questions(self):
        for table_rows in tables():
            table, slow = Table(table_rows), Slow(table_rows)
            self.same((table.names, len(table)), (slow.names, len(slow.names)))
            pairs = list(itertools.permutations(slow.names, 2))
            self.same(table.all_factors(), tuple((one, other, slow.factor(one, other)) for one, other in pairs))
            self.same(self.asked(table.all_pairs), tuple(pair for pair in pairs if slow.is_above(*pair)))
            for word in ("ties", "chain", "apart", "layers"):
                self.same(self.asked(getattr(table, word)), getattr(slow, word)())
            for name in slow.names:
                for word in BY_NAME:
                    self.same(self.asked(getattr(table, word), name), getattr(slow, word)(name))
                self.same(table[name].text, slow.plans[name].text)
            for one, other in itertools.product(slow.names, repeat=2):
                self.same(self.asked(table.factor_of, one, other), slow.factor(one, other))
                self.same(self.asked(table.is_never_longer, one, other), slow.factor(one, other) <= 1)
                self.same(table.is_never_longer(one, other), slow.never(one, other))

    def test_by_times(self):
        for table_rows in tables()[:20]:
            table = Table(table_rows)
            for one, other in itertools.product(table.names, repeat=2):
                first, second = table[one], table[other]
                times = [(time_by_rows(first, own), time_by_rows(second, own)) for own in bits_durations(first)]
                self.same(table.is_never_longer(one, other), all(time <= more for time, more in times))

    def test_guarantees(self):
        for table_rows in tables():
            table = Table(table_rows)
            pairs = table.all_pairs()
            for one, other in pairs:
                self.assertNotIn((other, one), pairs)
                for first, last in pairs:
                    self.assertTrue(first != other or (one, last) in pairs)
            self.same(len(table.layers()), len(table.chain()))
            self.same(sorted(name for layer in table.layers() for name in layer), list(table.names))

    def test_without_rows(self):
        for table in (Table(()), Table([]), Table(rows=())):
            self.same(shown(table), [(), (), (), (), (), []])
            self.same((table.names, len(table), "a" in table), ((), 0, False))
            for word in BY_NAME:
                self.denied(NoPlan, {"name": "a"}, getattr(table, word), "a")

    def test_one_row(self):
        for plan in (Plan(()), Plan.of("a"), Plan.of("a b; b a")):
            table = Table((("house", plan),))
            self.same(shown(table), [(), (), (), ("house",), ("house",), [("house",)]])
            self.same((table.below("house"), table.next_above("house")), ((), ()))
            self.same(table.factor_of("house", "house"), min(1, len(plan)))
            self.same(table.is_never_longer("house", "house"), True)

    def test_the_least_of_several(self):
        # k and x stand above b, a does not.
        plans = {"x": "p q r; p q", "a": "p q r; q r", "k": "p q r; p r", "b": "p q r; p q; p r", "w": "p q r; p q; q r"}
        table = Table(tuple((name, Plan.of(text)) for name, text in plans.items()))
        self.same((table.chain(), table.apart()), (("k", "b", "w"), ("a", "k", "x")))
        self.same(Table((("b", Plan.of("p q")), ("a", Plan.of("p q")))).apart(), ("a",))
        self.same(Table((("b", Plan.of("p q")), ("a", Plan.of("p q")))).chain(), ("a",))

    def test_in_and_item(self):
        table = Table(ROWS)
        for name, plan in ROWS:
            self.assertIs(name in table, True)
            self.assertTrue(table[name] == plan)
        for name in ("f", "aa", "z", "abcdefgh"):
            self.assertIs(name in table, False)
            self.refused(NoPlan, {"name": name}, lambda own: table[own], name)

    def test_every_order_of_the_rows(self):
        told = shown(Table(ROWS))
        for table_rows in itertools.permutations(ROWS):
            self.same(shown(Table(table_rows)), told)
            self.assertTrue(Table(table_rows) == Table(ROWS))


class Refused(Case):
    def test_known(self):
        a, b, c = (Plan.of(text) for text in ("x y", "x y; x y", "x z"))
        for table_rows, name in (
            ((("k", a), ("k", a)), "k"), ((("k", a), ("m", b), ("m", a), ("k", a)), "m"),
            ((("m", a), ("k", b), ("m", c), ("k", c)), "m"), ((("m", c), ("k", b), ("a", a), ("k", c)), "k"),
        ):
            self.denied(Known, {"name": name}, Table, table_rows)
            self.refused(Known, {"name": name}, Table, listed(table_rows))

    def test_other_works(self):
        a, c = Plan.of("x y"), Plan.of("x z")
        for plans in ((a, c), (c, a), (a, a, c), (a, c, a), (Plan(()), a), (a, Plan.of("x y z")), (a, Plan.of("x"))):
            table_rows = tuple(zip("qrs", plans))
            self.denied(OtherWorks, {}, Table, table_rows)
            self.denied(OtherWorks, {}, Table, table_rows[::-1])

    def test_no_plan(self):
        table = Table(ROWS)
        before = shown(table)
        for word in BY_NAME:
            self.denied(NoPlan, {"name": "f"}, getattr(table, word), "f")
        for word in BY_TWO:
            call = getattr(table, word)
            for one, other, name in (("f", "a", "f"), ("a", "f", "f"), ("f", "g", "f"), ("g", "f", "g"), ("f", "f", "f")):
                self.denied(NoPlan, {"name": name}, call, one, other)
        self.same(shown(table), before)

    def test_iteration(self):
        for table in (Table(()), Table(ROWS)):
            self.assertRaises(TypeError, iter, table)
            self.assertRaises(TypeError, list, table)
            with self.assertRaises(TypeError):
                for _ in table:
                    pass

    def test_the_property_has_no_setter(self):
        with self.assertRaises(AttributeError):
            Table(ROWS).names = ()


class Alone(Case):
    def test_equal(self):
        table = Table(ROWS)
        self.assertTrue(table == Table(ROWS) and not table != Table(ROWS))
        self.assertTrue(table != Table(ROWS[1:]) and not table == Table(ROWS[1:]))
        self.assertTrue(Table(()) == Table([]) and Table(()) != table)
        for place, (name, plan) in enumerate(ROWS):
            for row in (("zz", plan), (name, turned(plan)), (name, Plan.of("x y z; x z"))):
                same = row[0] == name and row[1] == plan
                self.assertIs(table == Table(ROWS[:place] + (row,) + ROWS[place + 1:]), same)
        for thing in THINGS + [ROWS, dict(ROWS), ROWS[0][1], Table]:
            self.assertIs(table == thing, False)
            self.assertIs(thing != table, True)

    def test_equal_also_when_asked_ahead(self):
        one, other = Table(ROWS), Table(ROWS[::-1])
        one.chain()
        self.assertTrue(one == other and other == one)

    def test_lists_are_copied(self):
        table_rows = [list(row) for row in ROWS]
        table, told = Table(table_rows), shown(Table(ROWS))
        table_rows[0][1] = Plan.of("x y z; z y")
        table_rows[1][0] = "k"
        del table_rows[2:]
        self.same((shown(table), table.names), (told, ("a", "b", "c", "d", "e")))

    def test_lists_belong_to_the_caller(self):
        table = Table(ROWS)
        told = table.layers()
        told[0] = "none"
        told.append(())
        self.same(table.layers(), [("b",), ("c", "e"), ("a", "d")])


if __name__ == "__main__":
    unittest.main()
