"""Several Plans of the same works: which ones never take longer than which."""

from lateplans.alike import never_longer
from lateplans.bits import both_ways, everyone, great_sets, layers_of, names_in, others, pairs_in, turned_bits
from lateplans.errors import Known, NoPlan
from lateplans.factor import factor


class Table:
    """Plans of the same works, each with a NAME.

    A NAME stands above another one if its Plan never takes longer, and the other one's can.
    """

    def __init__(self, rows):
        plans = {}
        for name, plan in rows:
            if name in plans:
                raise Known(name)
            plans[name] = plan
        self._names = tuple(sorted(plans))
        self._plans = plans
        # Found out at once, as a Table does not change; raises OtherWorks().
        self._nevers = _nevers_between([plans[name] for name in self._names])

    @property
    def names(self):
        """The set of the NAMEs."""
        return self._names

    def __len__(self):
        return len(self._names)

    def __contains__(self, x):
        return x in self._plans

    def __getitem__(self, at):
        if at not in self._plans:
            raise NoPlan(at)
        return self._plans[at]

    def __iter__(self):
        raise TypeError("a Table is not gone over")

    def __eq__(self, other):
        return isinstance(other, Table) and self._plans == other._plans

    def factor_of(self, name, other):
        """The factor of the Plan of name beside that of other; raises NoPlan(name)."""
        return factor(self[name], self[other])

    def all_factors(self):
        """All triples (name, other, factor) of two unlike NAMEs."""
        return tuple([
            (name, other, self.factor_of(name, other))
            for name in self._names for other in self._names if name != other
        ])

    def is_never_longer(self, name, other):
        """Whether the Plan of name never takes longer than that of other; raises NoPlan(name)."""
        return never_longer(self[name], self[other])

    def all_pairs(self):
        """The pairs of NAMEs of which the first one stands above the second one."""
        return pairs_in(self._names, self._under())

    def below(self, name):
        """The NAMEs that stand below this one; raises NoPlan(name)."""
        return names_in(self._names, self._under()[self._place(name)])

    def above(self, name):
        """The NAMEs that stand above this one; raises NoPlan(name)."""
        return names_in(self._names, self._over()[self._place(name)])

    def next_below(self, name):
        """Those below this one with no further NAME between; raises NoPlan(name)."""
        return names_in(self._names, _nexts(self._under(), self._place(name)))

    def next_above(self, name):
        """Those above this one with no further NAME between; raises NoPlan(name)."""
        return names_in(self._names, _nexts(self._over(), self._place(name)))

    def ties(self):
        """The sets of at least two NAMEs that are tied with one another and with no further one."""
        found = {}
        for name, bits in zip(self._names, self._tied()):
            found.setdefault(bits, []).append(name)
        return tuple(sorted([tuple(names) for names in found.values() if len(names) > 1]))

    def chain(self):
        """NAMEs, each above the next one, as many as can be, the least of such tuples."""
        under = self._under()
        found = []
        # Turned about, a layer tells how many can stand below one another from its NAMEs on.
        for layer in layers_of(self._over(), everyone(self._names))[::-1]:
            fits = [
                place for place, _ in enumerate(self._names)
                if layer >> place & 1 and (found == [] or under[found[-1]] >> place & 1)
            ]
            found.append(fits[0])
        return tuple([self._names[place] for place in found])

    def apart(self):
        """NAMEs none of which is tied with, or above, another one, as many as can be, the least of such sets."""
        beside = others([bits | more for bits, more in zip(both_ways(self._under()), self._tied())])
        sets = [names_in(self._names, bits) for bits in great_sets(beside, everyone(self._names))]
        return min(sets, key=lambda names: (-len(names), names))

    def layers(self):
        """The sets of NAMEs, above each of which only NAMEs of earlier sets stand."""
        return [names_in(self._names, layer) for layer in layers_of(self._under(), everyone(self._names))]

    def _place(self, name):
        """The place of this NAME; raises NoPlan(name)."""
        if name not in self._plans:
            raise NoPlan(name)
        return self._names.index(name)

    def _under(self):
        """For each NAME the bits of those below it."""
        return tuple([bits & ~more for bits, more in zip(self._nevers, turned_bits(self._nevers))])

    def _over(self):
        """For each NAME the bits of those above it."""
        return turned_bits(self._under())

    def _tied(self):
        """For each NAME the bits of itself and of those that it is tied with."""
        return tuple([bits & more for bits, more in zip(self._nevers, turned_bits(self._nevers))])


def _nevers_between(plans):
    """For each Plan the bits of those than which it never takes longer; raises OtherWorks()."""
    return tuple([
        sum([1 << place for place, other in enumerate(plans) if never_longer(one, other)]) for one in plans
    ])


def _nexts(under, place):
    """The bits of those under this place and under no other one that is under it."""
    bits = under[place]
    passed = 0
    for other, more in enumerate(under):
        if bits >> other & 1:
            passed = passed | more
    return bits & ~passed
