"""Plain, slow ways to say what the document says, and Plans to try them on."""

import functools
import itertools
import random

from lateplans.plans import Plan

LETTERS = "abcdefghij"


def closure(pairs):
    """All pairs (one, other) such that a chain of the pairs leads from one to other."""
    found = set(pairs)
    while True:
        more = {(one, last) for one, mid in found for first, last in found if mid == first} - found
        if not more:
            return found
        found |= more


def goes_round(pairs):
    return any(one == other for one, other in closure(pairs))


def first_bad(works, pairs):
    """The place of the first pair that cannot stand in a Plan; None if all can."""
    for place, (one, other) in enumerate(pairs):
        if one not in works or other not in works or one == other or goes_round(pairs[:place + 1]):
            return place
    return None


def subsets(items):
    for size in range(len(items) + 1):
        yield from itertools.combinations(items, size)


def rows(plan):
    """All ROWS."""
    return list(rows_by(plan.works, plan.pairs))


@functools.lru_cache(maxsize=None)
def rows_by(works, pairs):
    waits = closure(pairs)
    return [
        some for some in subsets(works)
        if all((x, y) in waits or (y, x) in waits for x, y in itertools.combinations(some, 2))
    ]


def spans(plan, durations, delays=()):
    """For each work when it begins and is done; a work in delays begins at the moment that stands there."""
    lasts, delays, found = dict(zip(plan.works, durations)), dict(delays), {}

    def span(name):
        if name not in found:
            start = max([span(one)[1] for one, other in plan.pairs if other == name] + [0])
            start = max(start, delays.get(name, 0))
            found[name] = (start, start + lasts[name])
        return found[name]

    return {name: span(name) for name in plan.works}


def time_by_rows(plan, durations):
    lasts = dict(zip(plan.works, durations))
    return max(sum(lasts[name] for name in row) for row in rows(plan))


def longest_rows(plan, durations):
    lasts, time = dict(zip(plan.works, durations)), time_by_rows(plan, durations)
    return [row for row in rows(plan) if sum(lasts[name] for name in row) == time]


def every_plan(many):
    """All Plans of the first so many letters."""
    works = tuple(LETTERS[:many])
    offers = list(itertools.permutations(works, 2))
    return [Plan(works, pairs) for pairs in subsets(offers) if not goes_round(pairs)]


def some_plans(many, sizes=(5, 6, 7, 8, 9, 10), seed=7):
    """So many Plans of each of these sizes, always the same ones."""
    chance = random.Random(seed)
    plans = []
    for size in sizes:
        for _ in range(many):
            works = list(LETTERS[:size])
            order = chance.sample(works, size)
            offers = [(order[i], order[k]) for k in range(size) for i in range(k)]
            pairs = [pair for pair in offers if chance.random() < chance.choice((0.1, 0.3, 0.6))]
            plans.append(Plan(works, chance.sample(pairs, len(pairs))))
    return plans


def some_durations(plan, many, seed=11):
    """So many DURATIONS for the Plan, always the same ones, with zeros and equal ones among them."""
    chance = random.Random(seed)
    found = [(0,) * len(plan), (1,) * len(plan), (10 ** 29,) * len(plan)]
    for _ in range(many):
        top = chance.choice((1, 2, 5, 10 ** 29))
        found.append(tuple(chance.randint(0, top) for _ in plan.works))
    return found


def nested(times, core, kind=tuple):
    """The core within so many tuples or lists."""
    for _ in range(times):
        core = kind([core])
    return core


THINGS = [
    None, True, False, 0, 1, -1, 10 ** 50, "", "a", "ab", "a b", "A", (), [], (None,), (True,), (False,),
    (True, True), [0, 0], ["a"], ("a", None), ("a", 1), ("a", True), (("a",),), (["a"],), ("a", ["b"]),
    ("a", ("b",)), ((), ()), ([],), ("",), ("a", "a"), ("b", "a"), ("zz",), (-1, 0), (0, "0"), (1, None),
    nested(12, "a"), nested(12, 0), nested(12, 0, list), nested(11, ("a", "b")), ("a",) * 500, (0,) * 500,
    tuple(range(300)), "a" * 5000,
]


def mates(plan):
    """All pairs of works in a row, both ways about."""
    waits = closure(plan.pairs)
    return waits | {(other, one) for one, other in waits}


def lots(plan):
    """All LOTS."""
    return list(lots_by(plan.works, plan.pairs))


@functools.lru_cache(maxsize=None)
def lots_by(works, pairs):
    waits = closure(pairs)
    return [
        some for some in subsets(works)
        if not any((x, y) in waits or (y, x) in waits for x, y in itertools.combinations(some, 2))
    ]


def great(sets):
    """Those of the sets that lie in no other one, ascending."""
    return sorted(some for some in sets if not any(set(some) < set(more) for more in sets))


def partings_of(some):
    """All ways to part these into sets none of which is ()."""
    if not some:
        return [()]
    found = []
    for parting in partings_of(some[1:]):
        found.append(tuple(sorted(((some[0],),) + parting)))
        for place, part in enumerate(parting):
            found.append(tuple(sorted(parting[:place] + ((some[0],) + part,) + parting[place + 1:])))
    return found


def bits_durations(plan):
    """All DURATIONS of 0 and 1."""
    return list(itertools.product((0, 1), repeat=len(plan)))


def two_plans(many, sizes=(5, 6, 7, 8, 9, 10), seed=5):
    """So many pairs of Plans of the same works, of each of these sizes."""
    plans, more = some_plans(many, sizes, seed), some_plans(many, sizes, seed + 100)
    return list(zip(plans, more)) + [(plan, plan) for plan in plans[::many]]


def spoiled(value):
    """This value, and things that are much like it."""
    found = [value, None, [value], (value,)]
    if isinstance(value, tuple):
        found += [list(value), value + (None,), value[1:], value[:-1], value[::-1], value + value[-1:], value[:1] + value]
        for place, item in enumerate(value):
            found += [value[:place] + (other,) + value[place + 1:] for other in spoiled(item)]
    elif isinstance(value, int):
        found += [value + 1, value - 1, -value, bool(value), str(value), 10 ** 40]
    else:
        found += [value + "a", value.upper(), "", "zz", 0, True]
    return found


def alike_waits(plan):
    """The waits of all Plans in which the same works are in a row, as sets of pairs."""
    pairs, orders = mates(plan), []
    for order in itertools.permutations(plan.works):
        waits = {(x, y) for x, y in pairs if order.index(x) < order.index(y)}
        if waits == closure(waits) and waits not in orders:
            orders.append(waits)
    return orders


def count_alike(plan):
    """How many there are, by directing pair after pair."""
    pairs = mates(plan)

    def settled(waits, left):
        """The waits with all that follow from these; None if they are against one another."""
        waits, left = set(waits), list(left)
        while left:
            x, y = left.pop()
            if (y, x) in waits:
                return None
            if (x, y) not in waits:
                waits.add((x, y))
                for z in plan.works:
                    if z not in (x, y):
                        if (y, z) in waits:
                            left.append((x, z))
                        if (z, x) in waits:
                            left.append((z, y))
                if any(wait not in pairs for wait in left):
                    return None
        return waits

    def count(waits):
        free = [pair for pair in sorted(pairs) if pair not in waits and pair[::-1] not in waits]
        if not free:
            return 1
        ways = [settled(waits, [pair]) for pair in (free[0], free[0][::-1])]
        return sum(count(way) for way in ways if way is not None)

    return count(set())
