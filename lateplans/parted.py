"""How works fall apart by who is in a row with whom, and how the pairs in a row can be directed.

Of the works inside just one of these is true. They are at most one: SINGLE. They fall into parts
with no pair in a row between them: APART. They fall into parts such that all works of one are in a
row with all of another one: IN_ROW. Else they are TANGLED: their parts are the greatest sets, short
of all, none of whose works anybody else inside is in a row with but for all of them.

Parts that are IN_ROW may stand in any order, one behind another. Between parts that are TANGLED
one pair directs all others. Within its parts each one is directed whatever stands around it.
"""

from lateplans.bits import others, places

SINGLE = 0
APART = 1
IN_ROW = 2
TANGLED = 3


def parted(mates, inside):
    """How the works inside fall apart, and the bits of the parts."""
    if inside & (inside - 1) == 0:
        return SINGLE, []
    parts = _chained(mates, inside)
    if len(parts) > 1:
        return APART, parts
    parts = _chained(others(mates), inside)
    if len(parts) > 1:
        return IN_ROW, parts
    return TANGLED, _greatest_likes(mates, inside)


def _chained(mates, inside):
    """The parts of the works inside between which none go together."""
    parts = []
    while inside:
        part = 0
        grown = 1 << places(inside)[0]
        while grown != part:
            part = grown
            for place in places(part):
                grown = grown | mates[place] & inside
        parts.append(part)
        inside = inside & ~part
    return parts


def _greatest_likes(mates, inside):
    """For tangled works the greatest parts, not all of them, that nobody else inside tells apart."""
    parts = []
    left = inside
    while left:
        first = places(left)[0]
        part = 1 << first
        for place in places(inside & ~part):
            like = _least_likes(mates, inside, 1 << first | 1 << place)
            if like != inside:
                part = part | like
        parts.append(part)
        left = left & ~part
    return parts


def _least_likes(mates, inside, part):
    """The least part with these works that nobody else inside tells apart."""
    grown = part
    while True:
        for place in places(inside & ~part):
            if mates[place] & part != 0 and part & ~mates[place] != 0:
                grown = grown | 1 << place
        if grown == part:
            return part
        part = grown


def how_many_ways(mates, inside):
    """In how many ways the pairs in a row inside can be directed such that a Plan has them."""
    kind, parts = parted(mates, inside)
    many = 2 if kind == TANGLED else 1
    for place, part in enumerate(parts, start=1):
        many = many * how_many_ways(mates, part) * (place if kind == IN_ROW else 1)
    return many


def all_ways(later, mates, inside):
    """All ways to direct the pairs in a row inside, each as a tuple of pairs of places; later tells one."""
    kind, parts = parted(mates, inside)
    ways = [()]
    if kind == IN_ROW:
        ways = [_one_behind_another(order) for order in orders(parts)]
    if kind == TANGLED:
        way = _between(later, parts)
        ways = [way, tuple([(other, one) for one, other in way])]
    for part in parts:
        inner = all_ways(later, mates, part)
        ways = [way + more for way in ways for more in inner]
    return ways


def orders(items):
    """All orders of the items."""
    found = [()]
    for item in items:
        found = [order[:at] + (item,) + order[at:] for order in found for at in range(len(order) + 1)]
    return found


def _one_behind_another(parts):
    """All pairs of places of which the second one is in a later part."""
    return tuple([
        (one, other) for at, part in enumerate(parts) for more in parts[at + 1:]
        for one in places(part) for other in places(more)
    ])


def _between(later, parts):
    """All pairs of places in unlike parts of which the second one waits for the first one."""
    return tuple([
        (one, other) for part in parts for one in places(part) for other in places(later[one])
        if any([more >> other & 1 for more in parts if more != part])
    ])
