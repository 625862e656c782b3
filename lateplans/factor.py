"""How many times as long one Plan can take as another one with the same works."""

from math import gcd

from lateplans.bits import bits_of, everyone, greatest_set, how_many, names_in, without
from lateplans.names import is_set_of
from lateplans.plans import all_in_row, all_side_by_side, mates_of, need_as_many, need_same_works
from lateplans.rows import great_rows, is_parting_in_rows, rows_over
from lateplans.times import is_durations, time_of


def factor(one, other):
    """The least number of times as long as other that one takes at the most; raises OtherWorks()."""
    return how_many(_row_and_side(one, other))


def row_and_side(one, other):
    """A set of as many works as the factor that is a ROW of one and a LOT of other; raises OtherWorks()."""
    return names_in(one.works, _row_and_side(one, other))


def _row_and_side(one, other):
    """The bits of the works that row_and_side tells."""
    need_same_works(one, other)
    return greatest_set(row_beside(one, other), everyone(one.works))


def row_beside(one, other):
    """For each work the bits of those that are in a row with it in one and side by side in other."""
    return without(mates_of(one), mates_of(other))


def lot_against(one, other, number):
    """A set of number + 1 works that is a ROW of one and a LOT of other, or None; raises OtherWorks()."""
    some = row_and_side(one, other)
    return some[:number + 1] if len(some) > number else None


def is_lot_against(one, other, number, thing):
    """Whether thing is a set as lot_against tells it; raises OtherWorks()."""
    need_same_works(one, other)
    if not is_set_of(one.works, thing) or len(thing) != number + 1:
        return False
    return all_in_row(one, thing) and all_side_by_side(other, thing)


def partings(one, other, number):
    """Each great ROW of one with a parting into at most number ROWS of other, or None; raises OtherWorks()."""
    need_same_works(one, other)
    found = [(row, rows_over(other, row)) for row in great_rows(one)]
    return tuple(found) if all([len(parting) <= number for _, parting in found]) else None


def is_partings(one, other, number, thing):
    """Whether thing is a tuple as partings tells it; raises OtherWorks()."""
    need_same_works(one, other)
    rows = great_rows(one)
    if not isinstance(thing, tuple) or len(thing) != len(rows):
        return False
    return all([_is_parted(other, number, row, pair) for row, pair in zip(rows, thing)])


def _is_parted(other, number, row, pair):
    """Whether this pair is the row with a parting of it into at most number ROWS of other."""
    if not isinstance(pair, tuple) or len(pair) != 2 or pair[0] != row:
        return False
    return is_parting_in_rows(other, row, pair[1]) and len(pair[1]) <= number


def durations_against(one, other, number):
    """DURATIONS by which one takes more than number times as long as other, or None; raises OtherWorks()."""
    some = lot_against(one, other, number)
    return None if some is None else durations_of(one, some)


def durations_of(plan, some):
    """The DURATIONS by which some works last 1 and all others 0."""
    bits = bits_of(plan.works, some)
    return tuple([bits >> place & 1 for place, _ in enumerate(plan.works)])


def is_durations_against(one, other, number, thing):
    """Whether thing is DURATIONS as durations_against tells them; raises OtherWorks()."""
    need_same_works(one, other)
    return is_durations(one, thing) and time_of(one, thing) > number * time_of(other, thing)


def as_long(one, other, durations):
    """The FRACTION of the time of one to that of other, None if other takes 0; raises OtherWorks()."""
    need_same_works(one, other)
    need_as_many(one, durations)
    top, bottom = time_of(one, durations), time_of(other, durations)
    if bottom == 0:
        return None
    return (top // gcd(top, bottom), bottom // gcd(top, bottom))
