"""Which works wait for which, told by WORKS and pairs (one, other): other waits for one."""


def order_of(works, pairs):
    """The works, each behind all that it waits for; whoever waits for a round is left out."""
    nexts = _nexts(works, pairs)
    waits_left = {name: 0 for name in works}
    for _, other in pairs:
        waits_left[other] += 1
    ready = [name for name in works if waits_left[name] == 0]
    order = []
    while ready:
        name = ready.pop()
        order.append(name)
        for other in nexts[name]:
            waits_left[other] -= 1
            if waits_left[other] == 0:
                ready.append(other)
    return order


def first_wrong(works, pairs):
    """The place of the first pair that cannot stand in a Plan of these works; None if all can."""
    strange = _first_strange(works, pairs)
    closing = _first_closing(works, pairs[:strange])
    if closing is not None:
        return closing
    return strange if strange < len(pairs) else None


def _nexts(works, pairs):
    """For each work those that the pairs themselves make wait for it."""
    nexts = {name: [] for name in works}
    for one, other in pairs:
        nexts[one].append(other)
    return nexts


def _first_strange(works, pairs):
    """The place of the first pair with a NAME that is no work; how many pairs there are if none has."""
    known = {name: True for name in works}
    for place, (one, other) in enumerate(pairs):
        if one not in known or other not in known:
            return place
    return len(pairs)


def _first_closing(works, pairs):
    """The place of the first pair by which, with those ahead, a work waits for itself; None if none does."""
    if not _goes_round(works, pairs):
        return None
    # A round stays one whatever pairs follow: pairs[:low] has none, pairs[:high] has one.
    low, high = 0, len(pairs)
    while high - low > 1:
        middle = (low + high) // 2
        if _goes_round(works, pairs[:middle]):
            high = middle
        else:
            low = middle
    return low


def _goes_round(works, pairs):
    """Whether by the pairs a work waits for itself."""
    return len(order_of(works, pairs)) < len(works)
