"""Plans: works that wait for one another."""

from lateplans.bits import bits_of, go_together, others, pairs_in, places, turned_bits, ways_between
from lateplans.errors import BadPair, BadText, Known, NoWork, OtherWorks
from lateplans.names import ascends, is_name
from lateplans.waits import first_wrong


class Plan:
    """WORKS, and PAIRS (one, other) of them by which other waits for one."""

    def __init__(self, works, pairs=()):
        rows = [(one, other) for one, other in pairs]
        self._works = tuple(works)
        place = first_wrong(self._works, rows)
        if place is not None:
            raise BadPair(place)
        self._pairs = tuple(sorted(set(rows)))
        # Found out when it is first asked for, and kept: a Plan does not change.
        self._ways = None

    @staticmethod
    def of(text):
        """The Plan with this text; raises BadText(piece)."""
        pieces = text.split("; ")
        works = () if pieces[0] == "-" else tuple(pieces[0].split(" "))
        if not ascends(works) or not all([is_name(word) for word in works]):
            raise BadText(0)
        rows = [tuple(piece.split(" ")) for piece in pieces[1:]]
        good = _how_many_ascend(rows)
        try:
            plan = Plan(works, rows[:good])
        except BadPair as wrong:
            raise BadText(wrong.place + 1) from None
        if good < len(rows):
            raise BadText(good + 1)
        return plan

    @property
    def works(self):
        """The set of the works."""
        return self._works

    @property
    def pairs(self):
        """The PAIRS."""
        return self._pairs

    @property
    def text(self):
        """The works, and behind them each of the PAIRS."""
        head = " ".join(self._works) if self._works else "-"
        return "; ".join([head] + [f"{one} {other}" for one, other in self._pairs])

    @property
    def ways(self):
        """For each work the bits of those that wait for it; and for each the bits of those in a row with it."""
        if self._ways is None:
            self._ways = ways_between(self._works, self._pairs)
        return self._ways

    def __len__(self):
        return len(self._works)

    def __contains__(self, x):
        return tuple(x) in self._pairs

    def __eq__(self, other):
        return isinstance(other, Plan) and self._works == other._works and self._pairs == other._pairs


def _how_many_ascend(rows):
    """How many rows, from the front on, are pairs each of which is greater than the one ahead of it."""
    for place, row in enumerate(rows):
        if len(row) != 2 or (place > 0 and rows[place - 1] >= row):
            return place
    return len(rows)


def need_works(plan, names):
    """Raises NoWork(name) for the first of the names that is no work."""
    for name in names:
        if name not in plan.works:
            raise NoWork(name)


def need_same_works(one, other):
    """Raises OtherWorks() if the Plans have unlike WORKS."""
    if one.works != other.works:
        raise OtherWorks()


def need_as_many(plan, numbers):
    """Raises OtherWorks() if these are not as many as the works."""
    if len(numbers) != len(plan.works):
        raise OtherWorks()


def later_of(plan):
    """For each work the bits of those that wait for it, through others, too."""
    return plan.ways[0]


def earlier_of(plan):
    """For each work the bits of those that it waits for, through others, too."""
    return turned_bits(later_of(plan))


def mates_of(plan):
    """For each work the bits of those in a row with it."""
    return plan.ways[1]


def all_waits(plan):
    """All pairs (one, other) of works such that other waits for one."""
    return pairs_in(plan.works, later_of(plan))


def waits_for(plan, one, other):
    """Whether one waits for other, through others, too."""
    need_works(plan, (one, other))
    return later_of(plan)[plan.works.index(other)] >> plan.works.index(one) & 1 == 1


def in_row(plan, one, other):
    """Whether one of both works waits for the other one."""
    need_works(plan, (one, other))
    return mates_of(plan)[plan.works.index(one)] >> plan.works.index(other) & 1 == 1


def row_pairs(plan):
    """All pairs of works in a row, the lesser work of each one first."""
    return tuple([(one, other) for one, other in pairs_in(plan.works, mates_of(plan)) if one < other])


def all_in_row(plan, some):
    """Whether each two of these works are in a row."""
    return go_together(mates_of(plan), bits_of(plan.works, some))


def all_side_by_side(plan, some):
    """Whether each two of these works are side by side."""
    return go_together(others(mates_of(plan)), bits_of(plan.works, some))


def needless_pairs(plan):
    """Those PAIRS that all others make wait as well."""
    later = later_of(plan)
    at = {name: place for place, name in enumerate(plan.works)}
    return tuple([
        (one, other) for one, other in plan.pairs
        if any([later[between] >> at[other] & 1 for between in places(later[at[one]])])
    ])


def plain_plan(plan):
    """The Plan without the needless pairs."""
    needless = needless_pairs(plan)
    return Plan(plan.works, [pair for pair in plan.pairs if pair not in needless])


def with_pair(plan, one, other):
    """The Plan with this pair, too."""
    need_works(plan, (one, other))
    # The new pair stands behind all PAIRS: if it cannot stand there, its place is their number.
    return Plan(plan.works, plan.pairs + ((one, other),))


def without_pair(plan, one, other):
    """The Plan without this pair; the same one if it has it not."""
    need_works(plan, (one, other))
    if (one, other) not in plan:
        return plan
    return Plan(plan.works, [pair for pair in plan.pairs if pair != (one, other)])


def turned(plan):
    """The Plan whose PAIRS are turned about."""
    return Plan(plan.works, [(other, one) for one, other in plan.pairs])


def only(plan, some):
    """The Plan of these works alone, which wait for one another as they did."""
    need_works(plan, some)
    return Plan(some, [(one, other) for one, other in all_waits(plan) if one in some and other in some])


def beside(one, other):
    """The Plan of the works and the PAIRS of both."""
    return _joined(one, other, ())


def behind(one, other):
    """The Plan of both in which each work of other waits for each work of one."""
    return _joined(one, other, tuple([(first, second) for first in one.works for second in other.works]))


def _joined(one, other, more):
    """The Plan of both with more pairs between them; raises Known(name)."""
    for name in one.works:
        if name in other.works:
            raise Known(name)
    return Plan(sorted(one.works + other.works), one.pairs + other.pairs + more)
