"""Sets of works as numbers: the work at a place of WORKS is the bit 1 << place.

mates tells for each place the bits of those places that go with it.
"""


def places(bits):
    """The ascending places of these bits."""
    return [place for place in range(bits.bit_length()) if bits >> place & 1]


def how_many(bits):
    """How many bits these are."""
    return len(places(bits))


def everyone(works):
    """The bits of all works."""
    return (1 << len(works)) - 1


def bits_of(works, some):
    """The bits of some of the works."""
    return sum([1 << place for place, name in enumerate(works) if name in some])


def names_in(works, bits):
    """The set of the works with these bits."""
    return tuple([name for place, name in enumerate(works) if bits >> place & 1])


def pairs_in(works, mates):
    """The ascending pairs of works of which the second one goes with the first one."""
    return tuple([
        (one, other) for one, bits in zip(works, mates)
        for place, other in enumerate(works) if bits >> place & 1
    ])


def others(mates):
    """For each place all other ones that do not go with it."""
    return tuple([everyone(mates) & ~bits & ~(1 << place) for place, bits in enumerate(mates)])


def without(mates, more):
    """For each place those that go with it by mates and not by more."""
    return tuple([bits & ~away for bits, away in zip(mates, more)])


def later_bits(works, pairs):
    """For each work the bits of those that wait for it, through others, too."""
    at = {name: place for place, name in enumerate(works)}
    found = [0] * len(works)
    for one, other in pairs:
        found[at[one]] = found[at[one]] | 1 << at[other]
    for between, _ in enumerate(works):
        for place, bits in enumerate(list(found)):
            if bits >> between & 1:
                found[place] = bits | found[between]
    return tuple(found)


def ways_between(works, pairs):
    """What later_bits tells, and for each work the bits of those in a row with it."""
    later = later_bits(works, pairs)
    return (later, both_ways(later))


def later_with(later, one, other):
    """What later_bits tells if the place other waits for one, too; None if that closes a round."""
    if one == other or later[other] >> one & 1:
        return None
    more = later[other] | 1 << other
    return tuple([
        bits | more if place == one or bits >> one & 1 else bits for place, bits in enumerate(later)
    ])


def turned_bits(later):
    """For each place those that it goes with."""
    return tuple([
        sum([1 << other for other, more in enumerate(later) if more >> place & 1])
        for place, _ in enumerate(later)
    ])


def both_ways(later):
    """For each place those that go with it, and those that it goes with."""
    return tuple([bits | more for bits, more in zip(later, turned_bits(later))])


def layers_of(later, inside):
    """The places inside in layers: each waits for one of the layer ahead of its own, and for none of its own."""
    layers = []
    while inside:
        waits = 0
        for place in places(inside):
            waits = waits | later[place]
        layers.append(inside & ~waits)
        inside = inside & waits
    return layers


def great_sets(mates, inside):
    """Those sets of places inside, each two of which go together, that lie in no other such set."""
    found = []
    left = [(0, inside, 0)]
    while left:
        chosen, offers, passed = left.pop()
        if offers == 0:
            # Whatever was passed makes a greater set, which is found elsewhere.
            if passed == 0:
                found.append(chosen)
            continue
        # A great set has the first place that is offered, or one that does not go with it.
        first = places(offers)[0]
        for place in places(offers & ~mates[first]):
            left.append((chosen | 1 << place, offers & mates[place], passed & mates[place]))
            offers = offers & ~(1 << place)
            passed = passed | 1 << place
    return found


def greatest_set(mates, inside):
    """A set of places inside, each two of which go together, with as many as can be."""
    return max(great_sets(mates, inside), key=how_many)


def has_set(mates, inside, many):
    """Whether so many places inside go together, each with each."""
    offers = places(inside)
    if many > len(offers):
        return False
    if many <= 0:
        return True
    for place in offers:
        inside = inside & ~(1 << place)
        if has_set(mates, inside & mates[place], many - 1):
            return True
    return False


def go_together(mates, bits):
    """Whether each two of these places go together."""
    return all([bits & ~mates[place] == 1 << place for place in places(bits)])
