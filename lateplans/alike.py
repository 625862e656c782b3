"""Plans that never take longer than other ones, and Plans that always take as long."""

from lateplans.bits import everyone, places
from lateplans.factor import row_beside
from lateplans.parted import all_ways, how_many_ways
from lateplans.plans import Plan, later_of, mates_of, need_same_works, need_works


def longer_at(one, other):
    """The least pair of works in a row in one and side by side in other, or None; raises OtherWorks()."""
    pairs = _longer_pairs(one, other)
    return pairs[0] if pairs else None


def is_longer_at(one, other, thing):
    """Whether thing is a pair as longer_at tells it, be it the least or not; raises OtherWorks()."""
    return thing in _longer_pairs(one, other)


def _longer_pairs(one, other):
    """The set of all pairs of works in a row in one and side by side in other; raises OtherWorks()."""
    need_same_works(one, other)
    return [
        (one.works[place], one.works[mate])
        for place, bits in enumerate(row_beside(one, other)) for mate in places(bits) if place < mate
    ]


def never_longer(one, other):
    """Whether one never takes longer than other; raises OtherWorks()."""
    return _longer_pairs(one, other) == []


def alike(one, other):
    """Whether both Plans always take as long; raises OtherWorks()."""
    need_same_works(one, other)
    return mates_of(one) == mates_of(other)


def how_many_alike(plan):
    """How many Plans with all their waits as PAIRS are alike to the Plan."""
    return how_many_ways(mates_of(plan), everyone(plan.works))


def all_alike(plan):
    """The Plans with all their waits as PAIRS that are alike to the Plan."""
    found = [
        sorted([(plan.works[one], plan.works[other]) for one, other in way])
        for way in all_ways(later_of(plan), mates_of(plan), everyone(plan.works))
    ]
    return [Plan(plan.works, pairs) for pairs in sorted(found)]


def forced(plan, one, other):
    """All pairs (x, y) of works such that y waits for x in each alike Plan in which other waits for one.

    Raises NoWork(name).
    """
    need_works(plan, (one, other))
    start = (plan.works.index(one), plan.works.index(other))
    mates = mates_of(plan)
    if mates[start[0]] >> start[1] & 1 == 0:
        return ()
    found = {start: True}
    left = [start]
    while left:
        first, last = left.pop()
        # Who is in a row with one of both and not with the other one cannot stand between them.
        more = [(first, place) for place in places(mates[first] & ~mates[last])]
        more = more + [(place, last) for place in places(mates[last] & ~mates[first])]
        for pair in more:
            if pair not in found:
                found[pair] = True
                left.append(pair)
    return tuple(sorted([(plan.works[first], plan.works[last]) for first, last in found]))
