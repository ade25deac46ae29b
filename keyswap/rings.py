"""The rounds in which the houses are swapped, and the dealing that comes of them."""

from keyswap.wishes import houses_for, refuse_wrong


def rounds(wishes):
    """All rounds, each the list of its rings; a ring is the list of its holders, each followed by the one looked to."""
    refuse_wrong(wishes)
    orders = {}
    for holder in range(len(wishes)):
        orders[holder] = houses_for(wishes, holder)
    told = []
    while orders:
        rings = rings_of(orders)
        told.append(rings)
        orders = orders_left(orders, rings)
    return told


def dealt(wishes):
    """The house that each holder gets by the rounds, that of holder nought first."""
    houses = list(range(len(wishes)))
    for rings in rounds(wishes):
        for ring in rings:
            for holder, looked_to in zip(ring, ring[1:] + ring[:1]):
                houses[holder] = looked_to
    return houses


def rings_of(orders):
    """The rings where each holder looks to the first of their order, the ring with the least first holder first."""
    rings = []
    walked = {}
    for start in orders:
        path = []
        holder = start
        while holder not in walked:
            walked[holder] = True
            path.append(holder)
            holder = orders[holder][0]
        # A walk that ends at a holder of an earlier walk comes to no ring that isn't told yet.
        if holder in path:
            rings.append(from_least(path[path.index(holder):]))
    return sorted(rings)


def from_least(ring):
    """The same ring, told from its least holder on."""
    first = ring.index(min(ring))
    return ring[first:] + ring[:first]


def orders_left(orders, rings):
    """The orders of the holders who are still there when all rings have left, with the houses still there."""
    gone = {}
    for ring in rings:
        for holder in ring:
            gone[holder] = True
    left = {}
    for holder in orders:
        # The own house goes with its holder alone, so no order that is left is empty.
        if holder not in gone:
            left[holder] = [house for house in orders[holder] if house not in gone]
    return left
