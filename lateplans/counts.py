"""ORDERS of a Plan: all its works, each behind all that it waits for; counted and numbered."""

from lateplans.bits import how_many
from lateplans.errors import BadPair, NoNumber
from lateplans.plans import earlier_of, later_of, need_works, with_pair


def is_order(plan, thing):
    """Whether thing is an ORDER."""
    if not isinstance(thing, tuple) or len(thing) != len(plan.works):
        return False
    if not all([name in thing for name in plan.works]):
        return False
    return all([thing.index(one) < thing.index(other) for one, other in plan.pairs])


def how_many_orders(plan):
    """How many ORDERS there are."""
    return _ways_on(_fronts(plan))[0]


def nth_order(plan, number):
    """The ORDER with this number; raises NoNumber(number)."""
    fronts = _fronts(plan)
    ways = _ways_on(fronts)
    if not 0 <= number < ways[0]:
        raise NoNumber(number)
    order = []
    front = 0
    while fronts[front]:
        for place in fronts[front]:
            many = ways[front | 1 << place]
            if number < many:
                break
            number = number - many
        order.append(plan.works[place])
        front = front | 1 << place
    return tuple(order)


def number_of_order(plan, order):
    """The number of this ORDER; None if it is none."""
    if not is_order(plan, tuple(order)):
        return None
    fronts = _fronts(plan)
    ways = _ways_on(fronts)
    number = 0
    front = 0
    for name in order:
        at = plan.works.index(name)
        number = number + sum([ways[front | 1 << place] for place in fronts[front] if place < at])
        front = front | 1 << at
    return number


def _fronts(plan):
    """For the bits of all works with which an ORDER can begin the places of those that can follow, ascending.

    Fewer works stand ahead of more works.
    """
    earlier = earlier_of(plan)
    found = {}
    layer = {0: True}
    while layer:
        for front in layer:
            found[front] = [
                place for place, bits in enumerate(earlier) if front >> place & 1 == 0 and bits & ~front == 0
            ]
        layer = {front | 1 << place: True for front in layer for place in found[front]}
    return found


def _ways_on(fronts):
    """For each front in how many ways an ORDER that begins with it goes on."""
    ways = {}
    for front in reversed(list(fronts)):
        # Behind all works there is just one way on, without anything in it.
        ways[front] = sum([ways[front | 1 << place] for place in fronts[front]]) if fronts[front] else 1
    return ways


def _ways_to(fronts):
    """For each front in how many ways it can be ordered."""
    ways = {0: 1}
    for front, nexts in fronts.items():
        for place in nexts:
            more = front | 1 << place
            ways[more] = ways.get(more, 0) + ways[front]
    return ways


def first_place(plan, name):
    """The least place that the work has in an ORDER; raises NoWork(name)."""
    need_works(plan, (name,))
    return how_many(earlier_of(plan)[plan.works.index(name)])


def last_place(plan, name):
    """The greatest place that the work has in an ORDER; raises NoWork(name)."""
    need_works(plan, (name,))
    return len(plan.works) - 1 - how_many(later_of(plan)[plan.works.index(name)])


def how_many_at(plan, name, place):
    """In how many ORDERS the work has this place; raises NoWork(name)."""
    need_works(plan, (name,))
    at = plan.works.index(name)
    fronts = _fronts(plan)
    ways, ways_on = _ways_to(fronts), _ways_on(fronts)
    return sum([
        ways[front] * ways_on[front | 1 << at] for front, nexts in fronts.items()
        if at in nexts and how_many(front) == place
    ])


def how_many_ahead(plan, one, other):
    """In how many ORDERS one stands ahead of other; raises NoWork(name)."""
    try:
        return how_many_orders(with_pair(plan, one, other))
    except BadPair:
        return 0
