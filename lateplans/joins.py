"""Plans joined: one put into the place of a work of another one, and Plans of the same works together."""

from lateplans.bits import greatest_set, how_many
from lateplans.errors import BadPair, Known
from lateplans.factor import row_beside
from lateplans.plans import Plan, all_waits, need_same_works, need_works


def put_into(plan, work, inner):
    """The Plan with the works of inner in the place of this work; raises NoWork(name), Known(name)."""
    need_works(plan, (work,))
    rest = tuple([name for name in plan.works if name != work])
    for name in inner.works:
        if name in rest:
            raise Known(name)
    stands = {name: (name,) for name in rest}
    stands[work] = inner.works
    pairs = [
        (first, last) for one, other in all_waits(plan)
        for first in stands[one] for last in stands[other]
    ]
    return Plan(sorted(rest + inner.works), pairs + list(all_waits(inner)))


def most_with(one, other, work):
    """How many works the greatest set has that is a ROW in one, a LOT in other, and has this work.

    Raises OtherWorks(), then NoWork(name).
    """
    need_same_works(one, other)
    need_works(one, (work,))
    mates = row_beside(one, other)
    return 1 + how_many(greatest_set(mates, mates[one.works.index(work)]))


def together(one, other):
    """The Plan with the PAIRS of both, None if they close a round; raises OtherWorks()."""
    need_same_works(one, other)
    try:
        return Plan(one.works, one.pairs + other.pairs)
    except BadPair:
        return None


def common_waits(one, other):
    """The Plan in which a work waits for another one if it does so in both; raises OtherWorks()."""
    need_same_works(one, other)
    more = all_waits(other)
    return Plan(one.works, [pair for pair in all_waits(one) if pair in more])
