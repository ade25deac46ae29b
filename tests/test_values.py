"""Point 1 and the interface: the kinds of the answers, and that nothing that is handed in is changed."""

import copy
import random
import unittest

from keyswap.errors import SwapError
from keyswap.groups import gladder, undone_by
from keyswap.rings import dealt, rounds
from tests.oracle import all_wishes, some_dealing, some_wishes


def many_wishes():
    return all_wishes(0) + all_wishes(1) + all_wishes(2) + all_wishes(3)[::17] + some_wishes(10, 10, seed=1)


def dealings_for(wishes):
    """Two dealings, a group and its own dealing, other ones for other wishes."""
    chance = random.Random(repr(wishes))
    count = len(wishes)
    group = chance.sample(range(count), chance.randint(0, count))
    return some_dealing(count, chance), some_dealing(count, chance), group, chance.sample(group, len(group))


class Kinds(unittest.TestCase):
    def is_list_of_whole_numbers(self, answer):
        self.assertIs(answer.__class__, list)
        self.assertTrue(all(number.__class__ is int for number in answer))

    def test_rounds(self):
        for wishes in many_wishes():
            told = rounds(wishes)
            self.assertIs(told.__class__, list)
            for rings in told:
                self.assertIs(rings.__class__, list)
                for ring in rings:
                    self.is_list_of_whole_numbers(ring)

    def test_dealt(self):
        for wishes in many_wishes():
            self.is_list_of_whole_numbers(dealt(wishes))

    def test_gladder(self):
        for wishes in many_wishes():
            houses, others, group, among = dealings_for(wishes)
            self.is_list_of_whole_numbers(gladder(wishes, houses, others))

    def test_undone_by(self):
        answers = []
        for wishes in many_wishes():
            houses, others, group, among = dealings_for(wishes)
            answers.append(undone_by(wishes, houses, group, among))
        self.assertTrue(all(answer is True or answer is False for answer in answers))
        self.assertIn(True, answers)
        self.assertIn(False, answers)


class NothingIsChanged(unittest.TestCase):
    def stays(self, call, *values):
        """All that is handed in holds what it held, and the lists within the wishes are the same objects."""
        before, within = copy.deepcopy(values), list(values[0])
        try:
            call(*values)
        except SwapError:
            pass
        self.assertEqual(values, before)
        self.assertTrue(all(now is then for now, then in zip(values[0], within)))

    def check(self, wishes):
        houses, others, group, among = dealings_for(wishes)
        self.stays(rounds, wishes)
        self.stays(dealt, wishes)
        self.stays(gladder, wishes, houses, others)
        self.stays(undone_by, wishes, houses, group, among)

    def test_by_answers(self):
        for wishes in many_wishes() + some_wishes(100, 2, seed=8):
            self.check(wishes)

    def test_by_refusals(self):
        for wishes in ([[1, 0, 1], [0]], [[1], [0, 1, 5]], [[2, 1, 1], [1, -1], []], [[0, 0]], [[-1]]):
            self.check(wishes)

    def test_one_list_that_stands_in_several_places(self):
        told = [2, 0, 1]
        self.check([told, told, told])
        self.assertEqual(told, [2, 0, 1])
        own = [0, 1, 2]
        self.assertIs(undone_by([told, told, told], own, own, own), False)
        self.assertEqual(gladder([told, told, told], own, own), [])
        self.assertEqual(own, [0, 1, 2])


class AnswersAreTheCallersOwn(unittest.TestCase):
    def test_changing_an_answer_changes_nothing_else(self):
        wishes = [[1, 2], [0], [1, 0]]
        rounds(wishes)[0][0].append(7)
        rounds(wishes).clear()
        dealt(wishes).clear()
        gladder(wishes, [0, 1, 2], [1, 0, 2]).clear()
        self.assertEqual(wishes, [[1, 2], [0], [1, 0]])
        self.assertEqual(rounds(wishes), [[[0, 1]], [[2]]])
        self.assertEqual(dealt(wishes), [1, 0, 2])
        self.assertEqual(gladder(wishes, [0, 1, 2], [1, 0, 2]), [0, 1])

    def test_nobody(self):
        wishes = []
        rounds(wishes).append(1)
        dealt(wishes).append(1)
        gladder(wishes, [], []).append(1)
        self.assertEqual((wishes, rounds(wishes), dealt(wishes), gladder(wishes, [], [])), ([], [], [], []))

    def test_a_dealing_handed_in_is_not_the_answer(self):
        own = [0]
        self.assertIsNot(gladder([[]], own, own), own)
        self.assertIsNot(rounds([]), dealt([]))

    def test_asked_again_the_answers_are_the_same(self):
        asked = many_wishes()
        first = [(rounds(wishes), dealt(wishes)) for wishes in asked]
        again = [(rounds(wishes), dealt(wishes)) for wishes in reversed(asked)]
        self.assertEqual(first, again[::-1])

    def test_changed_wishes_are_read_anew(self):
        wishes = [[1], [0]]
        self.assertEqual(dealt(wishes), [1, 0])
        wishes[1].clear()
        self.assertEqual(dealt(wishes), [0, 1])
        self.assertEqual(rounds(wishes), [[[1]], [[0]]])
        wishes.append([5])
        self.assertRaises(SwapError, rounds, wishes)
        self.assertRaises(SwapError, dealt, wishes)


if __name__ == "__main__":
    unittest.main()
