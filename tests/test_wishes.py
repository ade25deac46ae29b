"""Points 1, 2 and 4: what a holder's list means, and which house a holder would rather have."""

import copy
import inspect
import itertools
import unittest

from keyswap.wishes import rather
from tests.oracle import lists_of, would_rather


def wishes_with(houses, holder, told):
    return [told if k == holder else [] for k in range(houses)]


class RatherCase(unittest.TestCase):
    def assert_rather(self, wishes, holder, one, other):
        """The one rather than the other, and so not the other way round."""
        self.assertIs(rather(wishes, holder, one, other), True, (wishes, holder, one, other))
        self.assertIs(rather(wishes, holder, other, one), False, (wishes, holder, other, one))

    def assert_neither(self, wishes, holder, one, other):
        self.assertIs(rather(wishes, holder, one, other), False, (wishes, holder, one, other))
        self.assertIs(rather(wishes, holder, other, one), False, (wishes, holder, other, one))


class Interface(unittest.TestCase):
    def test_arguments(self):
        self.assertEqual(list(inspect.signature(rather).parameters), ["wishes", "holder", "one", "other"])

    def test_arguments_by_name(self):
        self.assertIs(rather(wishes=[[1], []], holder=0, one=1, other=0), True)
        self.assertIs(rather(other=1, one=0, holder=0, wishes=[[1], []]), False)


class OrdinaryLists(RatherCase):
    def test_further_ahead_against_further_behind(self):
        wishes = [[3, 1, 2], [], [], []]
        self.assert_rather(wishes, 0, 3, 1)
        self.assert_rather(wishes, 0, 1, 2)
        self.assert_rather(wishes, 0, 3, 2)

    def test_the_place_in_the_list_counts_and_not_the_number(self):
        self.assert_rather([[1, 2], [], []], 0, 1, 2)
        self.assert_rather([[2, 1], [], []], 0, 2, 1)

    def test_house_nought_is_a_house_like_others(self):
        self.assert_rather([[], [0, 2], []], 1, 0, 2)
        self.assert_rather([[], [2, 0], []], 1, 2, 0)
        self.assert_rather([[], [0], []], 1, 0, 1)

    def test_each_holder_by_their_own_list(self):
        wishes = [[1, 2], [0], [1, 0]]
        self.assert_rather(wishes, 0, 1, 2)
        self.assert_rather(wishes, 1, 0, 2)
        self.assert_rather(wishes, 2, 1, 0)
        self.assert_rather(wishes, 1, 1, 2)

    def test_the_lists_of_the_others_count_for_nothing(self):
        for others in lists_of(3):
            self.assert_rather([others, [2, 0], others], 1, 2, 0)

    def test_the_last_holder(self):
        self.assert_rather([[], [], [], [0, 1, 2]], 3, 0, 2)
        self.assert_rather([[], [], [], [0, 1, 2]], 3, 2, 3)


class OwnHouseInTheList(RatherCase):
    wishes = [[], [], [4, 1, 2, 0, 3], [], [], []]

    def test_against_houses_ahead_of_it(self):
        self.assert_rather(self.wishes, 2, 4, 2)
        self.assert_rather(self.wishes, 2, 1, 2)

    def test_against_houses_behind_it(self):
        self.assert_rather(self.wishes, 2, 2, 0)
        self.assert_rather(self.wishes, 2, 2, 3)

    def test_against_a_house_that_is_not_in_the_list(self):
        self.assert_rather(self.wishes, 2, 2, 5)

    def test_houses_ahead_of_it_against_those_not_for_the_holder(self):
        for ahead in (4, 1):
            for not_for_them in (0, 3, 5):
                self.assert_rather(self.wishes, 2, ahead, not_for_them)

    def test_own_house_first(self):
        self.assert_rather([[0, 2, 1], [], []], 0, 0, 2)
        self.assert_rather([[0, 2, 1], [], []], 0, 0, 1)

    def test_own_house_last(self):
        self.assert_rather([[2, 1, 0], [], []], 0, 1, 0)
        self.assert_rather([[2, 1, 0], [], []], 0, 2, 1)


class OwnHouseNotInTheList(RatherCase):
    wishes = [[], [3, 0], [], [], []]

    def test_against_houses_in_the_list(self):
        self.assert_rather(self.wishes, 1, 3, 1)
        self.assert_rather(self.wishes, 1, 0, 1)

    def test_against_houses_not_in_the_list(self):
        self.assert_rather(self.wishes, 1, 1, 2)
        self.assert_rather(self.wishes, 1, 1, 4)

    def test_houses_in_the_list_against_those_not_in_it(self):
        self.assert_rather(self.wishes, 1, 3, 2)
        self.assert_rather(self.wishes, 1, 0, 4)


class ShortLists(RatherCase):
    def test_empty_list(self):
        self.assert_rather([[], [], []], 1, 1, 0)
        self.assert_rather([[], [], []], 1, 1, 2)
        self.assert_neither([[], [], []], 1, 0, 2)

    def test_only_the_own_house(self):
        self.assert_rather([[], [1], []], 1, 1, 0)
        self.assert_rather([[], [1], []], 1, 1, 2)
        self.assert_neither([[], [1], []], 1, 0, 2)


class NeitherIsForTheHolder(RatherCase):
    wishes = [[1, 0, 3, 2], [], [], [], [], []]

    def test_both_behind_the_own_house(self):
        self.assert_neither(self.wishes, 0, 3, 2)

    def test_both_not_in_the_list(self):
        self.assert_neither(self.wishes, 0, 4, 5)

    def test_one_behind_and_one_not_in_the_list(self):
        self.assert_neither(self.wishes, 0, 3, 4)
        self.assert_neither(self.wishes, 0, 2, 5)

    def test_both_not_in_a_list_without_the_own_house(self):
        self.assert_neither([[1], [], [], []], 0, 2, 3)


class TheSameHouse(RatherCase):
    def test_same_house(self):
        wishes = [[], [4, 2, 1, 3], [], [], [], []]
        for house, what in ((4, "first"), (2, "ahead"), (1, "own"), (3, "behind"), (5, "not in the list")):
            with self.subTest(what):
                self.assertIs(rather(wishes, 1, house, house), False)

    def test_own_house_not_in_the_list(self):
        self.assertIs(rather([[], [0]], 1, 1, 1), False)
        self.assertIs(rather([[], []], 1, 1, 1), False)


class OneAlone(RatherCase):
    def test_one_holder(self):
        self.assertIs(rather([[]], 0, 0, 0), False)
        self.assertIs(rather([[0]], 0, 0, 0), False)


class Many(RatherCase):
    def check_all_pairs(self, told, holder, count):
        wishes = wishes_with(count, holder, told)
        for one in range(count):
            for other in range(count):
                self.assertIs(rather(wishes, holder, one, other), would_rather(told, holder, one, other))

    def test_a_hundred_holders(self):
        self.check_all_pairs(list(range(99, -1, -1)), 40, 100)
        self.check_all_pairs(list(range(99)), 99, 100)
        self.check_all_pairs([house * 37 % 100 for house in range(100)], 0, 100)
        self.check_all_pairs([], 50, 100)

    def test_somewhat_more_than_a_hundred_are_not_refused(self):
        self.check_all_pairs(list(range(102, 1, -2)), 7, 103)

    def test_every_list_of_four_houses(self):
        for holder in range(4):
            for told in lists_of(4):
                self.check_all_pairs(told, holder, 4)


class NothingIsChanged(unittest.TestCase):
    def test_wishes_and_the_lists_within_them(self):
        for told in lists_of(3):
            for holder, one, other in itertools.product(range(3), repeat=3):
                wishes = [list(told), list(told), list(told)]
                within, before = list(wishes), copy.deepcopy(wishes)
                rather(wishes, holder, one, other)
                self.assertEqual(wishes, before)
                self.assertTrue(all(now is then for now, then in zip(wishes, within)))

    def test_asked_again_the_answer_is_the_same(self):
        wishes = [[], [3, 0, 1, 2], [], [], []]
        asked = list(itertools.product(range(5), range(5), range(5)))
        first = [rather(wishes, *some) for some in asked]
        again = [rather(wishes, *some) for some in reversed(asked)]
        self.assertEqual(first, again[::-1])

    def test_changed_wishes_are_read_anew(self):
        wishes = [[1, 2], [], []]
        self.assertIs(rather(wishes, 0, 1, 2), True)
        wishes[0].reverse()
        self.assertIs(rather(wishes, 0, 1, 2), False)


if __name__ == "__main__":
    unittest.main()
