"""A Plan that is hidden: what times, or when its works begin, tell of it."""

from lateplans.errors import BadAnswer, NothingDone, NoWork, OtherWorks
from lateplans.names import is_number, tupled
from lateplans.parted import orders
from lateplans.plans import Plan, all_waits


class Survey:
    """Times that a hidden Plan of some WORKS takes by some DURATIONS.

    Times tell who are in a row, never who waits. So what fits is told by graphs: a graph is the
    bits, by their places among all pairs, of the pairs in a row.
    """

    def __init__(self, works):
        self._works = tuple(works)
        self._told = []
        # The graphs that fit at first, and behind each time that was told.
        self._fitting = [tuple(range(1 << len(_pairs_of(self._works))))]

    @property
    def works(self):
        """The set of the works."""
        return self._works

    @property
    def told(self):
        """The pairs (DURATIONS, time), in the order in which they were told."""
        return tuple(self._told)

    def __len__(self):
        return len(self._told)

    def __eq__(self, other):
        return isinstance(other, Survey) and self._works == other._works and self._told == other._told

    def tell(self, durations, time):
        """This time is told; raises BadAnswer(answer)."""
        sums = _sums_of(self._works, durations)
        fitting = tuple([graph for graph in self._fitting[-1] if _time(graph, sums) == time])
        if not fitting:
            raise BadAnswer(time)
        self._told.append((tuple(durations), time))
        self._fitting.append(fitting)

    def back(self):
        """The last time was not told; raises NothingDone()."""
        if not self._told:
            raise NothingDone()
        self._told.pop()
        self._fitting.pop()

    def twin(self):
        """A Survey equal to this one that shares nothing with it."""
        mate = Survey(self._works)
        mate._told = list(self._told)
        mate._fitting = list(self._fitting)
        return mate

    def a_plan(self):
        """A Plan that fits."""
        return _plan_of(self._works, self._fitting[-1][0])

    def fits(self, plan):
        """Whether this Plan fits; raises OtherWorks()."""
        if plan.works != self._works:
            raise OtherWorks()
        return _graph_of(plan) in self._fitting[-1]

    def how_many(self):
        """How many graphs fit."""
        return len(self._fitting[-1])

    def in_row(self, one, other):
        """Whether both works are in a row in all Plans that fit, None if in some; raises NoWork(name)."""
        for name in (one, other):
            if name not in self._works:
                raise NoWork(name)
        at = _pairs_of(self._works).index((min(one, other), max(one, other)))
        found = [graph >> at & 1 == 1 for graph in self._fitting[-1]]
        return found[0] if all(found) or not any(found) else None

    def span(self, durations):
        """The least and the greatest time that Plans that fit take by these DURATIONS."""
        sums = _sums_of(self._works, durations)
        times = [_time(graph, sums) for graph in self._fitting[-1]]
        return (min(times), max(times))


def _pairs_of(works):
    """All pairs of works, the lesser one first."""
    return [(one, other) for place, one in enumerate(works) for other in works[place + 1:]]


def _graph_of(plan):
    """The graph of the Plan."""
    waits = all_waits(plan)
    return sum([
        1 << at for at, (one, other) in enumerate(_pairs_of(plan.works))
        if (one, other) in waits or (other, one) in waits
    ])


def _sums_of(works, durations):
    """For each set of works how long they last together, and the graph of the set alone, all in a row."""
    pairs = _pairs_of(works)
    lasts = dict(zip(works, durations))
    found = []
    for bits in range(1 << len(works)):
        some = [name for place, name in enumerate(works) if bits >> place & 1]
        needed = sum([1 << at for at, (one, other) in enumerate(pairs) if one in some and other in some])
        found.append((sum([lasts[name] for name in some]), needed))
    return found


def _time(graph, sums):
    """The time of a Plan with this graph."""
    return max([total for total, needed in sums if needed & ~graph == 0])


def _plan_of(works, graph):
    """A Plan with this graph."""
    pairs = [pair for at, pair in enumerate(_pairs_of(works)) if graph >> at & 1]
    for order in orders(works):
        # Each Plan has an order in which no work stands ahead of one that it waits for.
        plan = Plan(works, [
            (one, other) if order.index(one) < order.index(other) else (other, one) for one, other in pairs
        ])
        if len(all_waits(plan)) == len(pairs):
            return plan
    return None


def surveyed_rows(works, asker):
    """The pairs of works in a row in a hidden Plan whose times asker tells; raises BadAnswer(answer)."""
    names = tuple(works)
    found = []
    for one, other in _pairs_of(names):
        answer = asker(tuple([1 if name in (one, other) else 0 for name in names]))
        # Both last 1 and all others 0, so it takes 1 or 2.
        if not is_number(answer) or answer not in (1, 2):
            raise BadAnswer(tupled(answer))
        if answer == 2:
            found.append((one, other))
    return tuple(found)


def surveyed(works, asker):
    """The pairs (one, other) such that other waits for one in a hidden Plan whose begins asker tells.

    Raises BadAnswer(answer).
    """
    names = tuple(works)
    found = []
    for place, one in enumerate(names):
        answer = tupled(asker(tuple([1 if name == one else 0 for name in names])))
        if not _are_begins(answer, len(names), place):
            raise BadAnswer(answer)
        found = found + [(one, other) for other, start in zip(names, answer) if start == 1]
    return tuple(found)


def _are_begins(answer, many, place):
    """Whether so many works can begin so if the one at this place lasts 1 and all others 0."""
    if not isinstance(answer, tuple) or len(answer) != many:
        return False
    return answer[place] == 0 and all([is_number(start) and start in (0, 1) for start in answer])
