"""By how much one Plan can be later than another one, with a least and a greatest duration of each work."""

from lateplans.bits import everyone, great_sets, places
from lateplans.plans import mates_of, need_as_many, need_same_works
from lateplans.times import is_durations


def is_limits(plan, thing):
    """Whether thing is LIMITS for the Plan."""
    if not isinstance(thing, tuple) or len(thing) != 2:
        return False
    if not all([is_durations(plan, part) for part in thing]):
        return False
    return all([low <= high for low, high in zip(thing[0], thing[1])])


def is_within(plan, limits, thing):
    """Whether thing is DURATIONS within the LIMITS; raises OtherWorks()."""
    _need_limits(plan, limits)
    if not is_durations(plan, thing):
        return False
    return all([low <= lasts <= high for low, lasts, high in zip(limits[0], thing, limits[1])])


def _need_limits(plan, limits):
    """Raises OtherWorks() if one of both of the LIMITS has not as many numbers as there are works."""
    for part in limits:
        need_as_many(plan, part)


def most_late(one, other, limits):
    """The greatest number by which one is later than other within the LIMITS; raises OtherWorks()."""
    _need_all(one, other, limits)
    return _latest(_rows_of(one), _rows_of(other), limits)[0]


def least_late(one, other, limits):
    """The least number by which one is later than other within the LIMITS; raises OtherWorks()."""
    return -most_late(other, one, limits)


def never_late(one, other, limits):
    """Whether one is never later than other within the LIMITS; raises OtherWorks()."""
    return most_late(one, other, limits) <= 0


def durations_late(one, other, limits):
    """DURATIONS by which one is later than other by the greatest number; raises OtherWorks()."""
    _need_all(one, other, limits)
    return _latest(_rows_of(one), _rows_of(other), limits)[1]


def is_durations_late(one, other, limits, thing):
    """Whether thing is DURATIONS as durations_late tells them; raises OtherWorks()."""
    _need_all(one, other, limits)
    rows, more = _rows_of(one), _rows_of(other)
    return is_within(one, limits, thing) and _late(rows, more, thing) == _latest(rows, more, limits)[0]


def durations_apart(one, other, limits, number):
    """DURATIONS by which one is later than other by just this number, or None; raises OtherWorks()."""
    _need_all(one, other, limits)
    rows, more = _rows_of(one), _rows_of(other)
    least, start = _latest(more, rows, limits)
    most, stop = _latest(rows, more, limits)
    if not -least <= number <= most:
        return None
    under = over = start
    for place, lasts in enumerate(stop):
        # Work after work goes over from start to stop, until one is late enough.
        if _late(rows, more, over) < number:
            under = over
            over = over[:place] + (lasts,) + over[place + 1:]
    return _between(rows, more, under, over, number)


def _between(rows, more, under, over, number):
    """DURATIONS by which it is later by this number: by under it is less, by over not less.

    Both differ in one work alone. If this one lasts 1 longer, each time grows by 1 or not at all:
    so no number between is left out.
    """
    while _late(rows, more, over) > number:
        middle = tuple([(low + high) // 2 for low, high in zip(under, over)])
        if _late(rows, more, middle) < number:
            under = middle
        else:
            over = middle
    return over


def _need_all(one, other, limits):
    """Raises OtherWorks() if the Plans have unlike WORKS, or the LIMITS not as many numbers."""
    need_same_works(one, other)
    _need_limits(one, limits)


def _rows_of(plan):
    """The places of the works of each great ROW."""
    return [places(bits) for bits in great_sets(mates_of(plan), everyone(plan.works))]


def _late(rows, more, durations):
    """By how much the Plan with these great ROWS is later than the one with more."""
    return _time(rows, durations) - _time(more, durations)


def _time(rows, durations):
    """The time of the Plan with these great ROWS."""
    return max([sum([durations[place] for place in row]) for row in rows])


def _latest(rows, more, limits):
    """By how much the Plan with these great ROWS can be later than the one with more, and such DURATIONS."""
    lows, highs = limits
    found = []
    for row in rows:
        # It is the latest when a great ROW of it lasts as long, and all else as short, as can be.
        durations = tuple([
            high if place in row else low for place, (low, high) in enumerate(zip(lows, highs))
        ])
        found.append((_late(rows, more, durations), durations))
    return max(found)
