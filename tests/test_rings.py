"""Points 5, 6 and 7: the rounds and their rings, and the dealing that comes of them."""

import inspect
import unittest

from keyswap.rings import dealt, rounds
from tests.oracle import all_wishes, rounds_by_words, some_wishes


class RingsCase(unittest.TestCase):
    def check(self, wishes, told, houses):
        self.assertEqual(rounds(wishes), told)
        self.assertEqual(dealt(wishes), houses)


class Interface(unittest.TestCase):
    def test_arguments(self):
        self.assertEqual(list(inspect.signature(rounds).parameters), ["wishes"])
        self.assertEqual(list(inspect.signature(dealt).parameters), ["wishes"])

    def test_arguments_by_name(self):
        self.assertEqual(rounds(wishes=[[1], [0]]), [[[0, 1]]])
        self.assertEqual(dealt(wishes=[[1], [0]]), [1, 0])


class FewHolders(RingsCase):
    def test_the_example_of_the_document(self):
        self.check([[1, 2], [0], [1, 0]], [[[0, 1]], [[2]]], [1, 0, 2])

    def test_nobody(self):
        self.check([], [], [])

    def test_one_holder(self):
        self.check([[]], [[[0]]], [0])
        self.check([[0]], [[[0]]], [0])

    def test_two_holders(self):
        self.check([[1], [0]], [[[0, 1]]], [1, 0])
        self.check([[1], []], [[[1]], [[0]]], [0, 1])
        self.check([[], [0]], [[[0]], [[1]]], [0, 1])
        self.check([[], []], [[[0], [1]]], [0, 1])


class ListsOfOneSort(RingsCase):
    def test_all_lists_empty(self):
        self.check([[], [], [], []], [[[0], [1], [2], [3]]], [0, 1, 2, 3])

    def test_all_lists_alike(self):
        self.check([[0, 1, 2]] * 3, [[[0]], [[1]], [[2]]], [0, 1, 2])
        self.check([[2, 0, 1]] * 3, [[[2]], [[0]], [[1]]], [0, 1, 2])
        self.check([[1]] * 3, [[[1]], [[0], [2]]], [0, 1, 2])

    def test_each_names_the_own_house_alone(self):
        self.check([[0], [1], [2]], [[[0], [1], [2]]], [0, 1, 2])


class RingsOfARound(RingsCase):
    def test_two_pairs_leave_together(self):
        self.check([[1], [0], [3], [2]], [[[0, 1], [2, 3]]], [1, 0, 3, 2])

    def test_rings_of_several_lengths(self):
        self.check([[3], [], [4], [5], [2], [0]], [[[0, 3, 5], [1], [2, 4]]], [3, 1, 4, 5, 2, 0])

    def test_a_ring_is_told_from_its_least_holder(self):
        self.check([[4], [], [3], [4], [2]], [[[1], [2, 3, 4]], [[0]]], [0, 1, 3, 4, 2])
        self.check([[3], [4], [1], [2], [3]], [[[1, 4, 3, 2]], [[0]]], [0, 4, 1, 2, 3])

    def test_rings_are_told_by_their_first_holders_and_not_as_they_are_found(self):
        wishes = [[5], [2], [1], [], [], [6], [5]]
        self.check(wishes, [[[1, 2], [3], [4], [5, 6]], [[0]]], [0, 2, 1, 3, 4, 6, 5])

    def test_first_holders_go_by_number_and_not_by_length_of_the_ring(self):
        self.check([[1], [2], [0], []], [[[0, 1, 2], [3]]], [1, 2, 0, 3])
        self.check([[], [2], [3], [1]], [[[0], [1, 2, 3]]], [0, 2, 3, 1])

    def test_first_holders_of_two_figures(self):
        wishes = [[11 - house] for house in range(12)]
        rings = [[house, 11 - house] for house in range(6)]
        self.check(wishes, [rings], list(range(11, -1, -1)))
        wishes = [[]] * 9 + [[10], [9], []]
        self.check(wishes, [[[house] for house in range(9)] + [[9, 10], [11]]], [0, 1, 2, 3, 4, 5, 6, 7, 8, 10, 9, 11])

    def test_each_is_followed_by_the_one_they_look_to(self):
        self.check([[1], [2], [3], [0]], [[[0, 1, 2, 3]]], [1, 2, 3, 0])
        self.check([[3], [0], [1], [2]], [[[0, 3, 2, 1]]], [3, 0, 1, 2])

    def test_those_who_look_into_a_ring_are_no_part_of_it(self):
        self.check([[1], [2], [1], [0]], [[[1, 2]], [[0]], [[3]]], [0, 2, 1, 3])


class RoundsOneAfterTheOther(RingsCase):
    def test_a_house_that_has_gone_is_passed_over(self):
        self.check([[1, 2, 3], [0], [0, 3], [0, 1, 2]], [[[0, 1]], [[2, 3]]], [1, 0, 3, 2])

    def test_the_house_of_one_who_has_left_is_there_no_more(self):
        self.check([[], [0, 2], [0, 1]], [[[0]], [[1, 2]]], [0, 2, 1])

    def test_rings_in_the_second_round_are_not_told_in_the_first(self):
        self.check([[], [0, 2], [1], [], [3, 5], [4]], [[[0], [3]], [[1, 2], [4, 5]]], [0, 2, 1, 3, 5, 4])

    def test_one_leaves_after_the_other_along_a_chain(self):
        wishes = [[house + 1] for house in range(5)] + [[]]
        self.check(wishes, [[[house]] for house in range(5, -1, -1)], list(range(6)))


class TheOwnHouseInAList(RingsCase):
    def test_at_its_head(self):
        self.check([[0, 1], [0]], [[[0]], [[1]]], [0, 1])
        self.check([[0, 1], [1, 0]], [[[0], [1]]], [0, 1])

    def test_in_its_middle(self):
        self.check([[1, 0, 2], [2], [0]], [[[0, 1, 2]]], [1, 2, 0])

    def test_what_stands_behind_it_counts_for_nothing(self):
        self.check([[1, 0, 2], [1], [0]], [[[1]], [[0]], [[2]]], [0, 1, 2])

    def test_at_its_end_it_changes_nothing(self):
        self.check([[1, 2, 0], [0, 1], [1, 0, 2]], [[[0, 1]], [[2]]], [1, 0, 2])


class ManyHolders(RingsCase):
    sizes = (100, 104, 130)

    def test_all_lists_empty(self):
        for count in self.sizes:
            self.check([[]] * count, [[[house] for house in range(count)]], list(range(count)))

    def test_a_ring_of_all(self):
        for count in self.sizes:
            ring = [step * 37 % count for step in range(count)]
            wishes = [[(house + 37) % count] for house in range(count)]
            self.check(wishes, [[ring]], [(house + 37) % count for house in range(count)])

    def test_as_many_rounds_as_holders(self):
        for count in self.sizes:
            up, down = list(range(count)), list(range(count - 1, -1, -1))
            self.check([up] * count, [[[house]] for house in up], up)
            self.check([down] * count, [[[house]] for house in down], up)

    def test_a_pair_in_each_round(self):
        for count in self.sizes:
            wishes = [list(range(house - house % 2)) + [house ^ 1] for house in range(count)]
            pairs = [[[house, house + 1]] for house in range(0, count, 2)]
            self.check(wishes, pairs, [house ^ 1 for house in range(count)])

    def test_pairs_that_all_leave_together(self):
        for count in self.sizes:
            wishes = [[house ^ 1] for house in range(count)]
            pairs = [[house, house + 1] for house in range(0, count, 2)]
            self.check(wishes, [pairs], [house ^ 1 for house in range(count)])


class ByTheWordsOfTheDocument(RingsCase):
    def check_by_words(self, wishes):
        told = rounds_by_words(wishes)
        self.assertEqual(rounds(wishes), told)
        self.assertEqual(dealt(wishes), houses_of(told))

    def test_all_wishes_of_up_to_three_holders(self):
        for count in range(4):
            for wishes in all_wishes(count):
                self.check_by_words(wishes)

    def test_some_wishes_of_more_holders(self):
        for count in range(4, 13):
            for wishes in some_wishes(count, 150, seed=count):
                self.check_by_words(wishes)

    def test_some_wishes_of_a_hundred(self):
        for count in (99, 100, 101):
            for wishes in some_wishes(count, 1, seed=count):
                self.check_by_words(wishes)


def houses_of(told):
    """Point 7: what each holder gets by the rounds told."""
    got = {}
    for rings in told:
        for ring in rings:
            for step, holder in enumerate(ring):
                got[holder] = ring[0] if holder == ring[-1] else ring[step + 1]
    return [got[holder] for holder in sorted(got)]


if __name__ == "__main__":
    unittest.main()
