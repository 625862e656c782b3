"""Which works decide the time whenever others do, and of which works one surely does."""

from lateplans.bits import everyone, great_sets, names_in, places
from lateplans.factor import durations_of
from lateplans.names import ascends, is_set_of
from lateplans.plans import mates_of, need_works
from lateplans.rows import great_rows
from lateplans.times import critical, is_durations


def always_with(plan, one, other):
    """Whether one is critical whenever other is; raises NoWork(name)."""
    return off_durations(plan, one, other) is None


def off_durations(plan, one, other):
    """DURATIONS by which other is critical and one is not, or None; raises NoWork(name)."""
    need_works(plan, (one, other))
    circles = _circles(plan)
    past = places(circles[plan.works.index(other)] & ~circles[plan.works.index(one)])
    # Who is in a row with other and not with one makes, with other, a ROW that no ROW with one reaches.
    return durations_of(plan, (other, plan.works[past[0]])) if past else None


def _circles(plan):
    """For each work the bits of itself and of all in a row with it."""
    return [bits | 1 << place for place, bits in enumerate(mates_of(plan))]


def is_off_durations(plan, one, other, thing):
    """Whether thing is DURATIONS as off_durations tells them; raises NoWork(name)."""
    need_works(plan, (one, other))
    if not is_durations(plan, thing):
        return False
    found = critical(plan, thing)
    return other in found and one not in found


def always_critical(plan):
    """The works that are critical by all DURATIONS."""
    circles = _circles(plan)
    return tuple([name for name, bits in zip(plan.works, circles) if bits == everyone(plan.works)])


def twins(plan):
    """The works parted into sets of those each of which is critical whenever the others are."""
    found = {}
    for name, bits in zip(plan.works, _circles(plan)):
        found.setdefault(bits, []).append(name)
    return tuple(sorted([tuple(names) for names in found.values()]))


def one_surely(plan, some):
    """Whether by all DURATIONS one of some works is critical; raises NoWork(name)."""
    return row_past(plan, some) is None


def row_past(plan, some):
    """A great ROW without any of some works, or None; raises NoWork(name)."""
    need_works(plan, some)
    past = [row for row in great_rows(plan) if not _meets(row, some)]
    return past[0] if past else None


def is_row_past(plan, some, thing):
    """Whether thing is a great ROW as row_past tells it; raises NoWork(name)."""
    need_works(plan, some)
    return thing in great_rows(plan) and not _meets(thing, some)


def _meets(row, some):
    """Whether the row has one of some works."""
    return any([name in some for name in row])


def fewest_guards(plan):
    """A set of as few works as can be of which by all DURATIONS one is critical; None without works."""
    return names_in(plan.works, bits_of_guards(plan)) if plan.works else None


def bits_of_guards(plan):
    """The bits of the works that fewest_guards tells; 0 without works."""
    rows = _great_bits(plan)
    many = 0
    found = None
    while found is None:
        found = _meeting(rows, 0, many)
        many += 1
    return found


def _great_bits(plan):
    """The bits of each great ROW, without ()."""
    return [bits for bits in great_sets(mates_of(plan), everyone(plan.works)) if bits != 0]


def _meeting(rows, chosen, more):
    """The chosen places with at most so many more, such that each of the rows has one; None if it cannot be."""
    past = [row for row in rows if row & chosen == 0]
    if not past:
        return chosen
    if more == 0:
        return None
    for place in places(past[0]):
        found = _meeting(past, chosen | 1 << place, more - 1)
        if found is not None:
            return found
    return None


def is_fewest_guards(plan, thing):
    """Whether thing is a set as fewest_guards tells it."""
    if plan.works == () or not is_set_of(plan.works, thing) or len(thing) != len(fewest_guards(plan)):
        return False
    return one_surely(plan, thing)


def apart_rows(plan):
    """As many great ROWS as can be no two of which have a common work."""
    found = _one_for_each(_great_bits(plan), places(bits_of_guards(plan)))
    return tuple(sorted([names_in(plan.works, bits) for bits in found]))


def _one_for_each(rows, guards):
    """Rows without common places, one for each guard; None if it cannot be.

    There are as many as guards; each has a guard, so that none has two.
    """
    if not guards:
        return []
    for row in rows:
        if row >> guards[0] & 1:
            more = _one_for_each([other for other in rows if other & row == 0], guards[1:])
            if more is not None:
                return [row] + more
    return None


def is_apart_rows(plan, thing):
    """Whether thing is a tuple as apart_rows tells it."""
    rows = great_rows(plan)
    if not isinstance(thing, tuple) or not all([row in rows and row != () for row in thing]):
        return False
    names = [name for row in thing for name in row]
    return ascends(thing) and len(set(names)) == len(names) and len(thing) == len(apart_rows(plan))
