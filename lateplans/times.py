"""Times: when the works of a Plan begin and are done, by their DURATIONS."""

from lateplans.names import is_number, is_set_of
from lateplans.plans import all_in_row, all_waits, turned
from lateplans.waits import order_of


def is_durations(plan, thing):
    """Whether thing is DURATIONS for the Plan."""
    if not isinstance(thing, tuple) or len(thing) != len(plan.works):
        return False
    return all([is_number(lasts) and lasts >= 0 for lasts in thing])


def time_of(plan, durations):
    """When all works are done."""
    return max(ends(plan, durations), default=0)


def ends(plan, durations):
    """When each work is done."""
    lasts = dict(zip(plan.works, durations))
    done = {}
    for name in order_of(plan.works, plan.pairs):
        start = max([done[one] for one, other in plan.pairs if other == name], default=0)
        done[name] = start + lasts[name]
    return tuple([done[name] for name in plan.works])


def begins(plan, durations):
    """When each work begins."""
    return tuple([stop - lasts for stop, lasts in zip(ends(plan, durations), durations)])


def latest_begins(plan, durations):
    """The latest moment at which each work, it alone, can begin such that the time stays."""
    time = time_of(plan, durations)
    # Turned about, a work is done as long behind 0 as here it must begin ahead of the time.
    return tuple([time - stop for stop in ends(turned(plan), durations)])


def slacks(plan, durations):
    """By how much later than it begins each work can begin such that the time stays."""
    starts = begins(plan, durations)
    return tuple([late - start for late, start in zip(latest_begins(plan, durations), starts)])


def critical(plan, durations):
    """The works that are in some longest ROW."""
    return tuple([name for name, slack in zip(plan.works, slacks(plan, durations)) if slack == 0])


def longest_row(plan, durations):
    """A longest ROW."""
    lasts = dict(zip(plan.works, durations))
    stops = dict(zip(plan.works, ends(plan, durations)))
    waits = all_waits(plan)
    fits = list(plan.works)
    left = time_of(plan, durations)
    row = []
    while left > 0:
        # Who does not begin at 0 waits for a work that is done just then.
        last = [name for name in fits if stops[name] == left][0]
        row.append(last)
        fits = [one for one, other in waits if other == last]
        left = left - lasts[last]
    return tuple(sorted(row))


def is_longest_row(plan, durations, thing):
    """Whether thing is a longest ROW."""
    if not is_set_of(plan.works, thing) or not all_in_row(plan, thing):
        return False
    lasts = dict(zip(plan.works, durations))
    return sum([lasts[name] for name in thing]) == time_of(plan, durations)


def how_many_longest(plan, durations):
    """How many longest ROWS there are."""
    starts = dict(zip(plan.works, begins(plan, durations)))
    stops = dict(zip(plan.works, ends(plan, durations)))
    waits = all_waits(plan)
    # For each work the ROWS in which it waits for all others and that last until it is done.
    many = {}
    for name in order_of(plan.works, plan.pairs):
        # In a longest ROW each work begins just when the one ahead of it is done.
        ahead = [many[one] for one, other in waits if other == name and stops[one] == starts[name]]
        many[name] = sum(ahead) + (1 if starts[name] == 0 else 0)
    time = time_of(plan, durations)
    return sum([many[name] for name in plan.works if stops[name] == time]) + (1 if time == 0 else 0)


def at_work(plan, durations, moment):
    """The works that have begun at this moment and are done later."""
    spans = list(zip(plan.works, begins(plan, durations), ends(plan, durations)))
    return tuple([name for name, start, stop in spans if start <= moment < stop])


def most_at_once(plan, durations):
    """How many works are at work at one moment at the most."""
    # There are never more at work than when some work has just begun.
    return max([len(at_work(plan, durations, start)) for start in begins(plan, durations)], default=0)
