"""Several DURATIONS together, and works that are made shorter."""

from lateplans.bits import bits_of, great_sets, names_in, places
from lateplans.names import is_set_of
from lateplans.plans import all_in_row, mates_of, need_works
from lateplans.times import is_longest_row, longest_row, slacks, time_of


def added(one, other):
    """The DURATIONS in which each work lasts as long as in both together."""
    return tuple([lasts + more for lasts, more in zip(one, other)])


def lost(plan, several):
    """By how much the times of several are more, together, than the time of all of them added."""
    return sum([time_of(plan, durations) for durations in several]) - time_of(plan, _sum_of(plan, several))


def _sum_of(plan, several):
    """The DURATIONS in which each work lasts as long as in all of several together."""
    total = (0,) * len(plan.works)
    for durations in several:
        total = added(total, durations)
    return total


def common_row(plan, several):
    """A ROW that is a longest one by each of several; None if there is none."""
    # Such a ROW is longest by all of them added; if nothing is lost, each such one is longest by each.
    return longest_row(plan, _sum_of(plan, several)) if lost(plan, several) == 0 else None


def is_common_row(plan, several, thing):
    """Whether thing is a ROW as common_row tells it."""
    if not is_set_of(plan.works, thing) or not all_in_row(plan, thing):
        return False
    return all([is_longest_row(plan, durations, thing) for durations in several])


def first_critical(plan, durations, name):
    """The least number such that this work, if it lasts so long, lies on a longest ROW; raises NoWork(name)."""
    need_works(plan, (name,))
    at = plan.works.index(name)
    # By how much it can be late if it lasts 0, so much it can last.
    return slacks(plan, [0 if place == at else lasts for place, lasts in enumerate(durations)])[at]


def cut_price(plan, durations, prices):
    """The least price of works without 1 of each of which the time is less; None if there are none."""
    found = _cut(plan, durations, prices)
    return None if found is None else found[0]


def cheapest_cut(plan, durations, prices):
    """Works without 1 of each of which the time is less, with the least price; None if there are none."""
    found = _cut(plan, durations, prices)
    return None if found is None else names_in(plan.works, found[1])


def is_cheapest_cut(plan, durations, prices, thing):
    """Whether thing is a set of works as cheapest_cut tells them."""
    found = _cut(plan, durations, prices)
    if found is None or not is_set_of(plan.works, thing):
        return False
    some = bits_of(plan.works, thing)
    if not all([durations[place] > 0 for place in places(some)]):
        return False
    return _is_cut(_longest_bits(plan, durations), some) and _price(prices, some) == found[0]


def _longest_bits(plan, durations):
    """For each longest ROW the bits of its works that last at least 1."""
    inside = sum([1 << place for place, lasts in enumerate(durations) if lasts > 0])
    time = time_of(plan, durations)
    rows = great_sets(mates_of(plan), inside)
    return [bits for bits in rows if sum([durations[place] for place in places(bits)]) == time]


def _is_cut(rows, some):
    """Whether each of the rows has one of some."""
    return all([bits & some != 0 for bits in rows])


def _price(prices, some):
    """What some cost together."""
    return sum([prices[place] for place in places(some)])


def _cut(plan, durations, prices):
    """The least price of works of which each longest ROW has one that lasts, and the bits of such; or None."""
    rows = _longest_bits(plan, durations)
    best = None
    # Works that are chosen, and works that are not to be.
    left = [(0, 0)]
    while left:
        chosen, barred = left.pop()
        price = _price(prices, chosen)
        if best is not None and best[0] <= price:
            continue
        past = [bits for bits in rows if bits & chosen == 0]
        if not past:
            best = (price, chosen)
            continue
        for place in places(past[0] & ~barred):
            left.append((chosen | 1 << place, barred))
            barred = barred | 1 << place
    return best
