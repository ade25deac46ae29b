"""Points 7 and 8: what holds of every dealing that comes of the rounds, whatever the wishes."""

import random
import unittest

from keyswap.groups import gladder, undone_by
from keyswap.rings import dealt, rounds
from keyswap.wishes import rather
from tests.oracle import all_wishes, dealings_of, groups_of, lists_of, place, some_dealing, some_wishes
from tests.oracle import undoes, would_rather


def few_and_many():
    """All wishes of up to three holders, and some of more."""
    few = [wishes for count in range(4) for wishes in all_wishes(count)]
    many = [wishes for count in (4, 5, 6, 9, 20, 50, 100, 110) for wishes in some_wishes(count, 12, seed=7 * count)]
    return few + many


def told_instead(wishes, holder, told):
    return [told if k == holder else list(wishes[k]) for k in range(len(wishes))]


class EachHouseOnce(unittest.TestCase):
    def test_in_the_dealing(self):
        for wishes in few_and_many():
            self.assertEqual(sorted(dealt(wishes)), list(range(len(wishes))))

    def test_each_holder_in_one_ring_of_one_round(self):
        for wishes in few_and_many():
            told = rounds(wishes)
            holders = [holder for rings in told for ring in rings for holder in ring]
            self.assertEqual(sorted(holders), list(range(len(wishes))))
            self.assertTrue(all(rings and all(rings) for rings in told))


class NobodyGetsLessThanTheirOwnHouse(unittest.TestCase):
    def test_each_house_is_for_the_one_who_gets_it(self):
        for wishes in few_and_many():
            for holder, house in enumerate(dealt(wishes)):
                self.assertIsNotNone(place(wishes[holder], holder, house))
                self.assertIs(rather(wishes, holder, holder, house), False)

    def test_nobody_would_be_gladder_with_the_houses_of_the_start(self):
        for wishes in few_and_many():
            own = list(range(len(wishes)))
            self.assertEqual(gladder(wishes, dealt(wishes), own), [])
            self.assertFalse(any(undone_by(wishes, dealt(wishes), [holder], [holder]) for holder in own))


class NoGroupUndoesTheDealing(unittest.TestCase):
    def check_all_groups(self, wishes):
        houses = dealt(wishes)
        for group in groups_of(len(wishes)):
            for among in dealings_of(group):
                self.assertIs(undoes(wishes, houses, group, among), False, (wishes, group, among))
                self.assertIs(undone_by(wishes, houses, group, among), False, (wishes, group, among))

    def test_all_wishes_of_up_to_three_holders(self):
        for count in range(4):
            for wishes in all_wishes(count):
                self.check_all_groups(wishes)

    def test_some_wishes_of_more_holders(self):
        for count, how_many in ((4, 60), (5, 25), (6, 3)):
            for wishes in some_wishes(count, how_many, seed=count + 40):
                self.check_all_groups(wishes)

    def test_every_other_dealing_is_undone_by_some_group(self):
        for wishes in all_wishes(2) + all_wishes(3)[::23] + some_wishes(4, 20, seed=3):
            houses = dealt(wishes)
            for other in dealings_of(range(len(wishes))):
                undone = any(
                    undone_by(wishes, other, group, among)
                    for group in groups_of(len(wishes))
                    for among in dealings_of(group)
                )
                self.assertIs(undone, other != houses, (wishes, other))

    def test_some_groups_of_a_hundred(self):
        chance = random.Random(100)
        for wishes in some_wishes(100, 3, seed=5):
            houses = dealt(wishes)
            for turn in range(60):
                group = chance.sample(range(100), chance.randint(1, 100))
                among = dealt_within(wishes, group)
                self.assertIs(undone_by(wishes, houses, group, among), False)
                self.assertIs(undone_by(wishes, houses, group, chance.sample(group, len(group))), False)


def dealt_within(wishes, group):
    """What the group would get by the rounds if nobody else were there."""
    numbers = {holder: k for k, holder in enumerate(group)}
    own = [[numbers[house] for house in wishes[holder] if house in numbers] for holder in group]
    return [group[k] for k in dealt(own)]


class NoOtherListWinsABetterHouse(unittest.TestCase):
    def check_other_list(self, wishes, holder, other, got):
        won = dealt(told_instead(wishes, holder, other))[holder]
        self.assertFalse(would_rather(wishes[holder], holder, won, got), (wishes, holder, other))

    def test_all_wishes_of_up_to_two_holders(self):
        for count in (1, 2):
            for wishes in all_wishes(count):
                for holder in range(count):
                    for other in lists_of(count):
                        self.check_other_list(wishes, holder, other, dealt(wishes)[holder])

    def test_all_wishes_of_three_holders(self):
        # Each dealing is needed many times, so all are made once.
        found = {as_key(wishes): dealt(wishes) for wishes in all_wishes(3)}
        lists = [tuple(told) for told in lists_of(3)]
        for key, houses in found.items():
            for holder in range(3):
                for other in lists:
                    won = found[key[:holder] + (other,) + key[holder + 1:]][holder]
                    # A house that they get already can't be one that they would rather have.
                    if won != houses[holder]:
                        self.assertFalse(would_rather(list(key[holder]), holder, won, houses[holder]), (key, other))

    def test_some_wishes_of_four_holders(self):
        for wishes in some_wishes(4, 40, seed=44):
            houses = dealt(wishes)
            for holder in range(4):
                for other in lists_of(4):
                    self.check_other_list(wishes, holder, other, houses[holder])

    def test_some_wishes_of_more_holders(self):
        for count in (5, 8, 12, 30):
            for wishes in some_wishes(count, 5, seed=count):
                houses = dealt(wishes)
                for holder in range(count):
                    for others in some_wishes(count, 2, seed=holder):
                        self.check_other_list(wishes, holder, others[holder], houses[holder])
                    for house in range(count):
                        self.check_other_list(wishes, holder, [house], houses[holder])


def as_key(wishes):
    return tuple(tuple(told) for told in wishes)


class HoldersNumberedAnew(unittest.TestCase):
    def check_anew(self, wishes, new):
        """`new` has the new number of each holder, and so of their house."""
        anew = [[]] * len(wishes)
        for holder, told in enumerate(wishes):
            anew[new[holder]] = [new[house] for house in told]
        houses = dealt(anew)
        self.assertEqual([houses[new[holder]] for holder in range(len(wishes))], [new[k] for k in dealt(wishes)])
        renamed = [sorted(from_least([new[holder] for holder in ring]) for ring in rings) for rings in rounds(wishes)]
        self.assertEqual(rounds(anew), renamed)

    def test_all_wishes_of_up_to_three_holders(self):
        for count in range(4):
            for wishes in all_wishes(count):
                for new in dealings_of(range(count)):
                    self.check_anew(wishes, new)

    def test_some_wishes_of_more_holders(self):
        chance = random.Random(2)
        for count in (4, 7, 15, 40, 100, 103):
            for wishes in some_wishes(count, 6, seed=count):
                for turn in range(4):
                    self.check_anew(wishes, some_dealing(count, chance))
                self.check_anew(wishes, list(range(count - 1, -1, -1)))


def from_least(ring):
    while ring[0] != min(ring):
        ring = ring[1:] + ring[:1]
    return ring


if __name__ == "__main__":
    unittest.main()
