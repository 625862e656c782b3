"""What PAIRS left out of one Plan, or pairs put into the other one, make of the factor of both."""

from lateplans.bits import (
    both_ways, everyone, go_together, great_sets, has_set, how_many, later_bits, later_with, without,
)
from lateplans.factor import row_beside
from lateplans.plans import later_of, mates_of, need_same_works, need_works, needless_pairs


def fewest_left_out(one, other, number):
    """The fewest PAIRS that, left out of one, make the factor at most this number, or None.

    Raises OtherWorks().
    """
    need_same_works(one, other)
    mates = mates_of(other)
    # Without any PAIRS the factor is the least of all.
    if _is_above(number, _mates_without(one, one.pairs), mates):
        return None
    return _least_set(one.pairs, lambda some: not _is_above(number, _mates_without(one, some), mates))


def fewest_put_in(one, other, number, offers):
    """The fewest of the offers that, put into other, make the factor at most this number, or None.

    Raises OtherWorks(), then NoWork(name).
    """
    need_same_works(one, other)
    pairs = [(first, last) for first, last in offers]
    need_works(other, [name for pair in pairs for name in pair])
    return _least_set(sorted(set(pairs)), lambda some: _is_enough(one, other, number, some))


def _least_set(items, fits):
    """Of the sets of the ascending items that fit one with the fewest, of several the least; None if none fits."""
    widest = [((), 0)]
    while widest:
        for some, _ in widest:
            if fits(some):
                return some
        widest = [
            (some + (item,), place + 1) for some, start in widest
            for place, item in enumerate(items) if place >= start
        ]
    return None


def _is_above(number, mates, more):
    """Whether more places than this number go together by mates, and no two of them by more."""
    return has_set(without(mates, more), everyone(mates), number + 1)


def _mates_without(plan, some):
    """For each work the bits of those in a row with it if these PAIRS are left out."""
    return both_ways(later_bits(plan.works, [pair for pair in plan.pairs if pair not in some]))


def _is_enough(one, other, number, some):
    """Whether these pairs can be put into other, and make the factor at most this number."""
    later = _later_with_all(other, some)
    return later is not None and not _is_above(number, mates_of(one), both_ways(later))


def _later_with_all(plan, some):
    """For each work the bits of those that wait for it with these pairs, too; None if they close a round."""
    later = later_of(plan)
    for one, other in some:
        later = later_with(later, plan.works.index(one), plan.works.index(other))
        if later is None:
            return None
    return later


def telling_pairs(one, other):
    """Those PAIRS of one without each of which, alone, the factor is less; raises OtherWorks()."""
    sets = _greatest_sets(one, other)
    needless = needless_pairs(one)
    return tuple([pair for pair in one.pairs if pair not in needless and _tells(one, pair, sets)])


def _tells(plan, pair, sets):
    """Whether without this pair of the Plan none of the sets is a ROW."""
    mates = _mates_without(plan, (pair,))
    return not any([go_together(mates, bits) for bits in sets])


def helping_pairs(one, other):
    """The pairs of works with each of which, alone, put into other the factor is less; raises OtherWorks()."""
    sets = _greatest_sets(one, other)
    return tuple([
        (first, last) for place, first in enumerate(other.works) for more, last in enumerate(other.works)
        if _helps(other, place, more, sets)
    ])


def _helps(plan, one, other, sets):
    """Whether the place other can wait for one in the Plan, and then none of the sets is a LOT."""
    if one == other or later_of(plan)[other] >> one & 1:
        return False
    ahead = mates_of(plan)[one] & ~later_of(plan)[one] | 1 << one
    behind = later_of(plan)[other] | 1 << other
    return all([bits & ahead != 0 and bits & behind != 0 for bits in sets])


def _greatest_sets(one, other):
    """The bits of all sets of as many works as the factor that are ROWS of one and LOTS of other."""
    need_same_works(one, other)
    found = great_sets(row_beside(one, other), everyone(one.works))
    most = max([how_many(bits) for bits in found])
    return [bits for bits in found if how_many(bits) == most]
