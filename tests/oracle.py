"""The document's points done slowly and word by word, to hold the program against; nothing here uses the program."""

import itertools
import random


def lists_of(houses):
    """Every list that names some of the houses, each once."""
    return [list(some) for size in range(houses + 1) for some in itertools.permutations(range(houses), size)]


def all_wishes(count):
    """All wishes of so many holders."""
    return [[list(told) for told in lists] for lists in itertools.product(lists_of(count), repeat=count)]


def some_wishes(count, how_many, seed):
    """Wishes of so many holders, with short and long lists, the same ones for the same seed."""
    chance = random.Random(seed)
    return [
        [chance.sample(range(count), chance.randint(0, count)) for holder in range(count)] for turn in range(how_many)
    ]


def place(told, holder, house):
    """How far behind a house comes by point 2, or None where it is not for the holder."""
    full = told if holder in told else told + [holder]
    if house not in full or full.index(house) > full.index(holder):
        return None
    return full.index(house)


def would_rather(told, holder, one, other):
    """Point 4."""
    first, second = place(told, holder, one), place(told, holder, other)
    return first is not None and (second is None or second > first)


def looked_to(told, holder, there):
    """The one house still there to which the holder would rather have none that is still there."""
    best = [one for one in there if not any(would_rather(told, holder, other, one) for other in there)]
    assert len(best) == 1, best
    return best[0]


def rounds_by_words(wishes):
    """Points 5 and 6."""
    there = set(range(len(wishes)))
    told = []
    while there:
        looks = {holder: looked_to(wishes[holder], holder, there) for holder in there}
        rings = []
        for holder in sorted(there):
            ring = [holder]
            while looks[ring[-1]] != holder and len(ring) <= len(there):
                ring.append(looks[ring[-1]])
            if len(ring) <= len(there) and min(ring) == holder:
                rings.append(ring)
        told.append(rings)
        there -= {holder for ring in rings for holder in ring}
    return told


def undoes(wishes, houses, group, among):
    """Point 9."""
    got = dict(zip(group, among))
    no_worse = all(not would_rather(wishes[holder], holder, houses[holder], got[holder]) for holder in group)
    return no_worse and any(would_rather(wishes[holder], holder, got[holder], houses[holder]) for holder in group)


def groups_of(count):
    """Every group of so many holders, the empty one among them."""
    return [list(group) for size in range(count + 1) for group in itertools.combinations(range(count), size)]


def dealings_of(holders):
    """Every way to deal out the houses of these holders among themselves."""
    return [list(dealing) for dealing in itertools.permutations(holders)]


def some_dealing(count, chance):
    return chance.sample(range(count), count)
