"""Few hands: each work takes one pair of hands as long as it lasts, and works begin in some order."""

from lateplans.errors import OtherWorks
from lateplans.names import is_set_of
from lateplans.plans import all_in_row, earlier_of, need_as_many, turned
from lateplans.rows import width
from lateplans.times import ends


def begins_by(plan, durations, hands, order):
    """When each work begins; raises OtherWorks()."""
    need_as_many(plan, durations)
    if sorted(order) != list(plan.works):
        raise OtherWorks()
    earlier = earlier_of(plan)
    left = [plan.works.index(name) for name in order]
    starts = {}
    moment, done, busy = 0, 0, []
    while left:
        ready = [place for place in left if earlier[place] & ~done == 0]
        if ready and len(busy) < hands:
            starts[ready[0]] = moment
            busy = busy + [(moment + durations[ready[0]], ready[0])]
            left = [place for place in left if place not in starts]
        else:
            moment = min(busy)[0]
        done, busy = _settled(moment, done, busy)
    return tuple([starts[place] for place, _ in enumerate(plan.works)])


def _settled(moment, done, busy):
    """The bits of the works that are done at this moment, and when who is at work will be done.

    busy tells pairs (stop, place) for those who were at work.
    """
    for stop, place in busy:
        if stop == moment:
            done = done | 1 << place
    return done, [(stop, place) for stop, place in busy if stop > moment]


def _spans(plan, durations, hands, order):
    """For each work when it begins and when it is done; raises OtherWorks()."""
    starts = begins_by(plan, durations, hands, order)
    return [(start, start + lasts) for start, lasts in zip(starts, durations)]


def time_by(plan, durations, hands, order):
    """When all is done; raises OtherWorks()."""
    return max([stop for _, stop in _spans(plan, durations, hands, order)], default=0)


def idle_by(plan, durations, hands, order):
    """How long hands do nothing, all together; raises OtherWorks()."""
    return hands * time_by(plan, durations, hands, order) - sum(durations)


def row_by(plan, durations, hands, order):
    """A ROW of which one is at work whenever fewer works than hands are; raises OtherWorks()."""
    spans = _spans(plan, durations, hands, order)
    earlier = earlier_of(plan)
    moments = _short_moments(spans, hands)
    fits = list(range(len(spans)))
    row = []
    while moments:
        # Who has not begun though hands are free waits for one that is at work.
        place = [own for own in fits if spans[own][0] <= moments[-1] < spans[own][1]][0]
        row.append(plan.works[place])
        fits = [own for own in fits if earlier[place] >> own & 1]
        moments = [moment for moment in moments if moment < spans[place][0]]
    return tuple(sorted(row))


def _short_moments(spans, hands):
    """The moments from which on fewer works than hands are at work, until one begins or is done."""
    moments = sorted(set([moment for span in spans for moment in span]))
    many = [len([start for start, stop in spans if start <= moment < stop]) for moment in moments]
    # From the last moment on all is done.
    return [moment for moment, busy in zip(moments[:-1], many) if busy < hands]


def is_row_by(plan, durations, hands, order, thing):
    """Whether thing is a ROW as row_by tells it; raises OtherWorks()."""
    spans = _spans(plan, durations, hands, order)
    if not is_set_of(plan.works, thing) or not all_in_row(plan, thing):
        return False
    mine = [span for name, span in zip(plan.works, spans) if name in thing]
    return all([
        any([start <= moment < stop for start, stop in mine]) for moment in _short_moments(spans, hands)
    ])


def least_time_by(plan, durations, hands):
    """The least time by all orders; raises OtherWorks()."""
    return _best(plan, durations, hands)[0]


def best_order(plan, durations, hands):
    """An order with the least time; raises OtherWorks()."""
    return tuple([plan.works[place] for place in _best(plan, durations, hands)[1]])


def _best(plan, durations, hands):
    """The least time by all orders, and the places of the works in an order with it; raises OtherWorks()."""
    need_as_many(plan, durations)
    earlier = earlier_of(plan)
    # How long it takes at the least from when a work begins.
    tails = ends(turned(plan), durations)
    best = None
    seen = {}
    # An order in which works have begun, the moment, and who is done and at work then.
    left = [((), 0, 0, [])]
    while left:
        order, moment, done, busy = left.pop()
        if best is not None and best[0] <= _least_end(durations, tails, hands, order, moment, busy):
            continue
        # How it goes on does not depend on how it came so far.
        state = (moment, done, tuple(sorted(busy)))
        if state in seen:
            continue
        seen[state] = True
        if len(order) == len(durations):
            best = (max([stop for stop, _ in busy], default=moment), order)
            continue
        ready = [place for place, bits in enumerate(earlier) if place not in order and bits & ~done == 0]
        if not ready or len(busy) == hands:
            moment = min(busy)[0]
            left.append((order, moment) + _settled(moment, done, busy))
            continue
        # What takes longest is tried first: it stands last.
        for place in sorted(ready, key=lambda own: tails[own]):
            more = busy + [(moment + durations[place], place)]
            left.append((order + (place,), moment) + _settled(moment, done, more))
    return best


def _least_end(durations, tails, hands, order, moment, busy):
    """A moment ahead of which all cannot be done if works have begun in this order."""
    rest = [place for place, _ in enumerate(durations) if place not in order]
    last = max([moment + tails[place] for place in rest], default=moment)
    last = max([last] + [stop + tails[place] - durations[place] for stop, place in busy])
    work = sum([durations[place] for place in rest]) + sum([stop - moment for stop, _ in busy])
    return max(last, moment + (work + hands - 1) // hands)


def hands_needed(plan):
    """The least number of pairs of hands with which the time is always that of the Plan."""
    return max(1, width(plan))
