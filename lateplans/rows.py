"""ROWS and LOTS: sets of works each two of which are in a row, or side by side."""

from lateplans.bits import bits_of, everyone, great_sets, greatest_set, how_many, layers_of, names_in, others, places
from lateplans.names import ascends, is_set_of
from lateplans.plans import all_in_row, all_side_by_side, later_of, mates_of, need_works


def is_row(plan, some):
    """Whether some works are a ROW; raises NoWork(name)."""
    need_works(plan, some)
    return all_in_row(plan, some)


def is_lot(plan, some):
    """Whether some works are a LOT; raises NoWork(name)."""
    need_works(plan, some)
    return all_side_by_side(plan, some)


def great_rows(plan):
    """The ROWS that lie in no other one."""
    return _great(plan, mates_of(plan))


def great_lots(plan):
    """The LOTS that lie in no other one."""
    return _great(plan, others(mates_of(plan)))


def _great(plan, mates):
    """The great sets of works each two of which go together."""
    return sorted([names_in(plan.works, bits) for bits in great_sets(mates, everyone(mates))])


def longest(plan):
    """The most works of a ROW."""
    return len(layers_of(later_of(plan), everyone(plan.works)))


def width(plan):
    """The most works of a LOT."""
    return how_many(greatest_set(others(mates_of(plan)), everyone(plan.works)))


def heights(plan):
    """For each work the most works of a ROW in which it waits for all others."""
    layers = layers_of(later_of(plan), everyone(plan.works))
    return tuple([
        height for place, _ in enumerate(plan.works)
        for height, bits in enumerate(layers, start=1) if bits >> place & 1
    ])


def lots_over(plan, some):
    """A parting of some works into as few LOTS as can be; raises NoWork(name)."""
    need_works(plan, some)
    layers = layers_of(later_of(plan), bits_of(plan.works, some))
    return tuple(sorted([names_in(plan.works, bits) for bits in layers]))


def rows_over(plan, some):
    """A parting of some works into as few ROWS as can be; raises NoWork(name)."""
    need_works(plan, some)
    inside = bits_of(plan.works, some)
    ahead = {}
    for place in places(inside):
        _put_ahead(later_of(plan), inside, place, ahead, [])
    follows = {one: other for other, one in ahead.items()}
    rows = []
    for place in places(inside):
        if place not in ahead:
            rows.append(names_in(plan.works, _row_from(place, follows)))
    return tuple(sorted(rows))


def _put_ahead(later, inside, place, ahead, tried):
    """Puts this place straight ahead of one that waits for it, moving others; whether it can be done.

    ahead tells who stands straight ahead of whom; no one stands ahead of two, so the more stand
    there, the fewer ROWS there are.
    """
    for other in places(later[place] & inside):
        if other not in tried:
            tried.append(other)
            if other not in ahead or _put_ahead(later, inside, ahead[other], ahead, tried):
                ahead[other] = place
                return True
    return False


def _row_from(place, follows):
    """The bits of this place and of all that follow it, one behind another."""
    bits = 1 << place
    while place in follows:
        place = follows[place]
        bits = bits | 1 << place
    return bits


def is_parting_in_rows(plan, some, thing):
    """Whether thing is a parting of some works into ROWS; raises NoWork(name)."""
    need_works(plan, some)
    return _is_parting(some, thing) and all([all_in_row(plan, row) for row in thing])


def is_parting_in_lots(plan, some, thing):
    """Whether thing is a parting of some works into LOTS; raises NoWork(name)."""
    need_works(plan, some)
    return _is_parting(some, thing) and all([all_side_by_side(plan, lot) for lot in thing])


def _is_parting(some, thing):
    """Whether thing is an ascending tuple of sets, none of them (), so that each of some is in just one."""
    if not isinstance(thing, tuple) or not all([is_set_of(some, part) and part != () for part in thing]):
        return False
    return ascends(thing) and sorted([name for part in thing for name in part]) == list(some)
