"""Points 4, 7 and 9: the holders who are gladder by another dealing, and the groups that undo a dealing."""

import inspect
import itertools
import random
import unittest

from keyswap.groups import gladder, undone_by
from keyswap.rings import dealt
from tests.oracle import all_wishes, dealings_of, groups_of, some_dealing, some_wishes, undoes, would_rather


class Interface(unittest.TestCase):
    def test_arguments(self):
        self.assertEqual(list(inspect.signature(gladder).parameters), ["wishes", "houses", "others"])
        self.assertEqual(list(inspect.signature(undone_by).parameters), ["wishes", "houses", "group", "among"])

    def test_arguments_by_name(self):
        self.assertEqual(gladder(others=[1, 0], houses=[0, 1], wishes=[[1], []]), [0])
        self.assertIs(undone_by(among=[1, 0], group=[0, 1], houses=[0, 1], wishes=[[1], [0]]), True)


class GladderAtOrdinaryDealings(unittest.TestCase):
    wishes = [[1, 2], [0], [1, 0]]

    def test_all_of_a_swap(self):
        self.assertEqual(gladder(self.wishes, [0, 1, 2], [1, 0, 2]), [0, 1])

    def test_the_other_way_round(self):
        self.assertEqual(gladder(self.wishes, [1, 0, 2], [0, 1, 2]), [])

    def test_one_gladder_and_one_not(self):
        self.assertEqual(gladder(self.wishes, [1, 0, 2], [2, 0, 1]), [2])
        self.assertEqual(gladder(self.wishes, [2, 0, 1], [1, 0, 2]), [0])

    def test_all(self):
        self.assertEqual(gladder([[1], [2], [0]], [0, 1, 2], [1, 2, 0]), [0, 1, 2])

    def test_the_same_dealing(self):
        for houses in dealings_of(range(3)):
            self.assertEqual(gladder(self.wishes, houses, list(houses)), [])
            self.assertEqual(gladder(self.wishes, houses, houses), [])

    def test_from_the_least_on(self):
        wishes = [[house ^ 1] for house in range(12)]
        swapped = [house ^ 1 for house in range(12)]
        self.assertEqual(gladder(wishes, list(range(12)), swapped), list(range(12)))
        wishes = [[]] * 9 + [[10], [9]]
        self.assertEqual(gladder(wishes, list(range(11)), list(range(9)) + [10, 9]), [9, 10])

    def test_one_holder(self):
        self.assertEqual(gladder([[]], [0], [0]), [])
        self.assertEqual(gladder([[0]], [0], [0]), [])

    def test_nobody(self):
        self.assertEqual(gladder([], [], []), [])

    def test_neither_dealing_need_come_of_the_rounds(self):
        self.assertEqual(gladder([[2, 1], [], []], [1, 2, 0], [2, 0, 1]), [0])


class GladderAtHousesThatAreNotForAHolder(unittest.TestCase):
    def test_in_the_first_dealing(self):
        self.assertEqual(gladder([[], []], [1, 0], [0, 1]), [0, 1])

    def test_in_the_second_dealing(self):
        self.assertEqual(gladder([[], []], [0, 1], [1, 0]), [])

    def test_in_both(self):
        self.assertEqual(gladder([[], [], []], [1, 2, 0], [2, 0, 1]), [])

    def test_behind_the_own_house(self):
        wishes = [[0, 1, 2], [1, 2, 0], [2, 0, 1]]
        self.assertEqual(gladder(wishes, [2, 0, 1], [1, 2, 0]), [])
        self.assertEqual(gladder(wishes, [2, 0, 1], [0, 1, 2]), [0, 1, 2])
        self.assertEqual(gladder(wishes, [0, 1, 2], [1, 2, 0]), [])

    def test_some_so_and_some_so(self):
        wishes = [[1], [1, 0], [3], [0, 2]]
        self.assertEqual(gladder(wishes, [2, 0, 1, 3], [1, 2, 3, 0]), [0, 2, 3])


class UndoneByAtOrdinaryDealings(unittest.TestCase):
    wishes = [[1, 2], [0], [1, 0]]

    def test_both_better_off(self):
        self.assertIs(undone_by(self.wishes, [0, 1, 2], [0, 1], [1, 0]), True)

    def test_one_better_off_and_one_alike(self):
        wishes = [[2, 1], [0], [1, 0]]
        self.assertIs(undone_by(wishes, [1, 0, 2], [0, 1, 2], [2, 0, 1]), True)

    def test_one_better_off_and_one_worse(self):
        self.assertIs(undone_by(self.wishes, [1, 0, 2], [1, 2], [2, 1]), False)
        self.assertIs(undone_by(self.wishes, [1, 0, 2], [2, 1], [1, 2]), False)

    def test_one_worse_among_many_better_off_wherever_they_stand(self):
        wishes = [[1], [0], [3], [2], []]
        houses = [0, 1, 2, 3, 4]
        self.assertIs(undone_by(wishes, houses, [0, 1, 2, 3, 4], [1, 0, 3, 2, 4]), True)
        for order in itertools.permutations([(0, 1), (1, 4), (2, 3), (3, 2), (4, 0)]):
            group, among = [pair[0] for pair in order], [pair[1] for pair in order]
            self.assertIs(undone_by(wishes, houses, group, among), False)

    def test_none_better_off(self):
        self.assertIs(undone_by(self.wishes, [1, 0, 2], [0, 1], [0, 1]), False)
        self.assertIs(undone_by(self.wishes, [1, 0, 2], [0], [0]), False)

    def test_all_alike(self):
        self.assertIs(undone_by(self.wishes, [1, 0, 2], [0, 1], [1, 0]), False)
        self.assertIs(undone_by(self.wishes, [1, 0, 2], [2], [2]), False)
        self.assertIs(undone_by(self.wishes, [1, 0, 2], [0, 1, 2], [1, 0, 2]), False)

    def test_one_alone_who_has_less_than_their_own_house(self):
        self.assertIs(undone_by([[], [0]], [1, 0], [0], [0]), True)
        self.assertIs(undone_by([[], [0]], [1, 0], [1], [1]), False)

    def test_one_holder(self):
        self.assertIs(undone_by([[]], [0], [0], [0]), False)

    def test_others_than_the_group_count_for_nothing(self):
        self.assertIs(undone_by([[1], [0], [], []], [0, 1, 2, 3], [0, 1], [1, 0]), True)
        self.assertIs(undone_by([[], [], [3], [2]], [1, 0, 2, 3], [2, 3], [3, 2]), True)
        self.assertIs(undone_by([[], [], [], []], [1, 0, 2, 3], [2, 3], [2, 3]), False)


class UndoneByAtHousesThatAreNotForAHolder(unittest.TestCase):
    def test_in_the_dealing(self):
        self.assertIs(undone_by([[], []], [1, 0], [0, 1], [0, 1]), True)

    def test_in_what_the_group_deals(self):
        self.assertIs(undone_by([[1], []], [0, 1], [0, 1], [1, 0]), False)
        self.assertIs(undone_by([[], [0]], [0, 1], [0, 1], [1, 0]), False)

    def test_in_both_is_no_worse_and_no_better(self):
        wishes, houses = [[], [0], []], [1, 2, 0]
        self.assertIs(undone_by(wishes, houses, [0, 1, 2], [2, 0, 1]), True)
        self.assertIs(undone_by(wishes, houses, [0, 2], [2, 0]), False)
        self.assertIs(undone_by([[], [], []], houses, [0, 1, 2], [2, 0, 1]), False)

    def test_behind_the_own_house(self):
        self.assertIs(undone_by([[0, 1, 2], [0], []], [2, 1, 0], [0, 1], [1, 0]), True)
        self.assertIs(undone_by([[0, 1, 2], [], []], [2, 1, 0], [0, 2], [2, 0]), False)
        self.assertIs(undone_by([[0, 1], [0]], [0, 1], [0, 1], [1, 0]), False)


class Groups(unittest.TestCase):
    def test_empty(self):
        self.assertIs(undone_by([[1], [0]], [0, 1], [], []), False)
        self.assertIs(undone_by([[], []], [1, 0], [], []), False)

    def test_in_falling_and_in_mixed_order(self):
        wishes, houses = [[1], [3], [], [0], []], [0, 1, 2, 3, 4]
        self.assertIs(undone_by(wishes, houses, [0, 1, 3], [1, 3, 0]), True)
        self.assertIs(undone_by(wishes, houses, [3, 1, 0], [0, 3, 1]), True)
        self.assertIs(undone_by(wishes, houses, [1, 3, 0], [3, 0, 1]), True)
        self.assertIs(undone_by(wishes, houses, [3, 1, 0], [1, 3, 0]), False)
        self.assertIs(undone_by(wishes, houses, [1, 3, 0], [1, 3, 0]), False)

    def test_of_all(self):
        wishes = [[2], [0], [1]]
        for group in itertools.permutations(range(3)):
            among = [wishes[holder][0] for holder in group]
            self.assertIs(undone_by(wishes, [0, 1, 2], list(group), among), True)
            self.assertIs(undone_by(wishes, [2, 0, 1], list(group), among), False)

    def test_a_hundred_and_somewhat_more(self):
        for count in (100, 104):
            wishes = [[house ^ 1] for house in range(count)]
            own, swapped = list(range(count)), [house ^ 1 for house in range(count)]
            self.assertIs(undone_by(wishes, own, own, swapped), True)
            self.assertIs(undone_by(wishes, own, own[::-1], swapped[::-1]), True)
            self.assertIs(undone_by(wishes, swapped, own, swapped), False)
            self.assertIs(undone_by(wishes, swapped, own, own), False)
            self.assertEqual(gladder(wishes, own, swapped), own)
            self.assertEqual(gladder(wishes, swapped, own), [])

    def test_the_last_of_a_large_group_count_like_the_first(self):
        for count in (100, 104):
            own = list(range(count))
            last_swapped = own[:-2] + [count - 1, count - 2]
            wishes = [[]] * (count - 2) + [[count - 1], [count - 2]]
            self.assertIs(undone_by(wishes, own, own, last_swapped), True)
            self.assertEqual(gladder(wishes, own, last_swapped), own[-2:])
            swapped = [house ^ 1 for house in own]
            wishes = [[house ^ 1] for house in range(count - 1)] + [[]]
            self.assertIs(undone_by(wishes, own, own, swapped), False)
            self.assertEqual(gladder(wishes, own, swapped), own[:-1])


class ByTheWordsOfTheDocument(unittest.TestCase):
    def check_gladder(self, wishes, houses, others):
        glad = [
            holder
            for holder in range(len(wishes))
            if would_rather(wishes[holder], holder, others[holder], houses[holder])
        ]
        self.assertEqual(gladder(wishes, houses, others), glad)

    def check_undone(self, wishes, houses, group, among):
        self.assertIs(undone_by(wishes, houses, group, among), undoes(wishes, houses, group, among))

    def test_all_of_two_holders(self):
        for wishes in all_wishes(2):
            for houses, others in itertools.product(dealings_of(range(2)), repeat=2):
                self.check_gladder(wishes, houses, others)
                for group in ([], [0], [1], [0, 1], [1, 0]):
                    for among in dealings_of(group):
                        self.check_undone(wishes, houses, group, among)

    def test_many_of_three_holders(self):
        for wishes in all_wishes(3)[::29]:
            for houses in dealings_of(range(3)):
                for others in dealings_of(range(3)):
                    self.check_gladder(wishes, houses, others)
                for group in groups_of(3):
                    for among in dealings_of(group):
                        self.check_undone(wishes, houses, group, among)
                        self.check_undone(wishes, houses, group[::-1], among)

    def test_some_of_more_holders(self):
        chance = random.Random(9)
        for count in range(4, 9):
            for wishes in some_wishes(count, 60, seed=count):
                houses, others = some_dealing(count, chance), some_dealing(count, chance)
                self.check_gladder(wishes, houses, others)
                self.check_gladder(wishes, others, dealt(wishes))
                group = chance.sample(range(count), chance.randint(0, count))
                for among in dealings_of(group)[:200]:
                    self.check_undone(wishes, houses, group, among)


if __name__ == "__main__":
    unittest.main()
