"""A board of Plans, each with a NAME."""

from lateplans.alike import never_longer
from lateplans.errors import Known, NoPlan, NothingDone
from lateplans.factor import factor
from lateplans.plans import need_as_many, with_pair, without_pair
from lateplans.times import time_of


class Board:
    """Plans, each with a NAME, that come, go and change by deeds, which can be undone."""

    def __init__(self):
        self._plans = {}
        # The Plans by their NAMEs as they were ahead of each deed.
        self._past = []

    @property
    def names(self):
        """The set of the NAMEs."""
        return tuple(sorted(self._plans))

    @property
    def deeds(self):
        """How many deeds can be undone now."""
        return len(self._past)

    def __len__(self):
        return len(self._plans)

    def __contains__(self, x):
        return x in self._plans

    def __getitem__(self, at):
        if at not in self._plans:
            raise NoPlan(at)
        return self._plans[at]

    def __iter__(self):
        raise TypeError("a Board is not gone over")

    def __eq__(self, other):
        return isinstance(other, Board) and self._plans == other._plans

    def put(self, name, plan):
        """One Plan more; raises Known(name)."""
        self._need_new(name)
        plans = dict(self._plans)
        plans[name] = plan
        self._become(plans)

    def drop(self, name):
        """The Plan goes; raises NoPlan(name)."""
        self._become(self._without(name))

    def rename(self, name, new):
        """The Plan has another NAME from now on; raises NoPlan(name), Known(name)."""
        plans = self._without(name)
        self._need_new(new)
        plans[new] = self[name]
        self._become(plans)

    def wait(self, name, one, other):
        """The Plan has this pair, too; raises NoPlan(name), NoWork(name), BadPair(place)."""
        plans = dict(self._plans)
        plans[name] = with_pair(self[name], one, other)
        self._become(plans)

    def free(self, name, one, other):
        """The Plan has this pair no more; raises NoPlan(name), NoWork(name)."""
        plans = dict(self._plans)
        plans[name] = without_pair(self[name], one, other)
        self._become(plans)

    def undo(self):
        """The last deed is undone; raises NothingDone()."""
        if not self._past:
            raise NothingDone()
        self._plans = self._past.pop()

    def twin(self):
        """An equal Board without deeds to undo, which shares nothing with this one."""
        mate = Board()
        mate._plans = dict(self._plans)
        return mate

    def time_of(self, name, durations):
        """The time of the Plan; raises NoPlan(name), OtherWorks()."""
        need_as_many(self[name], durations)
        return time_of(self[name], durations)

    def never_longer(self, name, to):
        """Whether the Plan never takes longer than the Plan to; raises NoPlan(name), OtherWorks()."""
        return never_longer(self[name], self[to])

    def factor(self, name, to):
        """The factor of the Plan beside the Plan to; raises NoPlan(name), OtherWorks()."""
        return factor(self[name], self[to])

    def never_beaten(self):
        """The NAMEs of the Plans that never take longer than any Plan of the Board with the same works."""
        return tuple([name for name in self.names if self._is_never_beaten(self._plans[name])])

    def _is_never_beaten(self, plan):
        """Whether the Plan never takes longer than any Plan of the Board with the same works."""
        return all([never_longer(plan, other) for other in self._plans.values() if other.works == plan.works])

    def _need_new(self, name):
        """Raises Known(name) if there is a Plan with this NAME."""
        if name in self._plans:
            raise Known(name)

    def _without(self, name):
        """The Plans by their NAMEs, but for this one; raises NoPlan(name)."""
        if name not in self._plans:
            raise NoPlan(name)
        return {own: plan for own, plan in self._plans.items() if own != name}

    def _become(self, plans):
        """Does a deed: these Plans, by their NAMEs, from now on."""
        self._past.append(self._plans)
        self._plans = plans
