"""A Plan that changes, and its time behind each deed."""

from lateplans.errors import Known, NothingDone
from lateplans.plans import Plan, need_as_many, need_works, only, with_pair, without_pair
from lateplans.times import time_of


class Watch:
    """A Plan and DURATIONS that change by deeds, which can be taken back."""

    def __init__(self, plan, durations):
        need_as_many(plan, durations)
        self._plan = plan
        self._durations = tuple(durations)
        self._time = time_of(plan, durations)
        # What was there ahead of each deed: a triple of a Plan, DURATIONS and the time.
        self._past = []

    @property
    def plan(self):
        """The Plan as it is now."""
        return self._plan

    @property
    def durations(self):
        """The DURATIONS as they are now."""
        return self._durations

    @property
    def time(self):
        """The time now."""
        return self._time

    @property
    def told(self):
        """The times at the beginning and behind each deed."""
        return tuple([time for _, _, time in self._past] + [self._time])

    def __len__(self):
        return len(self._past)

    def __eq__(self, other):
        if not isinstance(other, Watch) or self._plan != other._plan:
            return False
        return self._durations == other._durations and self.told == other.told

    def last(self, name, number):
        """This work lasts so long from now on; raises NoWork(name)."""
        need_works(self._plan, (name,))
        lasts = self._lasts()
        lasts[name] = number
        return self._become(self._plan, lasts)

    def wait(self, one, other):
        """The Plan has this pair, too; raises NoWork(name), BadPair(place)."""
        return self._become(with_pair(self._plan, one, other), self._lasts())

    def free(self, one, other):
        """The Plan has this pair no more; raises NoWork(name)."""
        return self._become(without_pair(self._plan, one, other), self._lasts())

    def add(self, name, number):
        """A work more, that lasts so long and waits for none; raises Known(name)."""
        if name in self._plan.works:
            raise Known(name)
        lasts = self._lasts()
        lasts[name] = number
        return self._become(Plan(sorted(lasts), self._plan.pairs), lasts)

    def drop(self, name):
        """The Plan becomes that of all other works alone; raises NoWork(name)."""
        need_works(self._plan, (name,))
        rest = tuple([own for own in self._plan.works if own != name])
        return self._become(only(self._plan, rest), self._lasts())

    def back(self):
        """The last deed is taken back; raises NothingDone()."""
        if not self._past:
            raise NothingDone()
        self._plan, self._durations, self._time = self._past.pop()

    def twin(self):
        """A Watch equal to this one, with the same deeds to take back, that shares nothing with it."""
        mate = Watch(self._plan, self._durations)
        mate._past = list(self._past)
        return mate

    def _lasts(self):
        """How long each work lasts now."""
        return dict(zip(self._plan.works, self._durations))

    def _become(self, plan, lasts):
        """Does a deed: the Plan, and how long each work lasts, from now on. Returns the time."""
        durations = tuple([lasts[name] for name in plan.works])
        time = time_of(plan, durations)
        self._past.append((self._plan, self._durations, self._time))
        self._plan, self._durations, self._time = plan, durations, time
        return time
