"""Point 3: wishes that each of the four functions refuses with NoHouse or Twice, and wishes that none refuses."""

import unittest

from keyswap.errors import NoHouse, SwapError, Twice
from keyswap.groups import gladder, undone_by
from keyswap.rings import dealt, rounds
from keyswap.wishes import rather
from tests.oracle import lists_of

HUGE = 10 ** 6000  # of more figures than Python writes out


def own_houses(wishes):
    return list(range(len(wishes)))


def undone_by_all(wishes):
    return undone_by(wishes, own_houses(wishes), own_houses(wishes), own_houses(wishes))


def undone_by_the_last(wishes):
    return undone_by(wishes, own_houses(wishes), [len(wishes) - 1], [len(wishes) - 1])


CALLS = {
    "rounds": rounds,
    "dealt": dealt,
    "gladder": lambda wishes: gladder(wishes, own_houses(wishes), own_houses(wishes)),
    "undone_by, all": undone_by_all,
    "undone_by, the last alone": undone_by_the_last,
    "undone_by, the empty group": lambda wishes: undone_by(wishes, own_houses(wishes), [], []),
}


class RefusalCase(unittest.TestCase):
    def refused(self, wishes, kind, what=""):
        """Each function raises the very class, which is taken as itself, as SwapError and as ValueError."""
        for name, call in CALLS.items():
            for taken_as in (kind, SwapError, ValueError):
                with self.subTest(name, what=what):
                    with self.assertRaises(taken_as) as caught:
                        call(wishes)
                    self.assertIs(caught.exception.__class__, kind)

    def not_refused(self, wishes):
        for name, call in CALLS.items():
            with self.subTest(name, wishes=wishes):
                call(wishes)


class NumbersThatAreNoHouse(RefusalCase):
    numbers = {
        "minus one": -1,
        "minus the number of holders": -3,
        "below minus the number of holders": -4,
        "the number of holders": 3,
        "one more": 4,
        "a hundred": 100,
        "far beyond": 2 ** 64,
        "far below": -(2 ** 64),
        "of many figures": HUGE,
        "of many figures, below": -HUGE,
    }

    def test_alone_in_a_list(self):
        for what, number in self.numbers.items():
            for holder in range(3):
                self.refused([[number] if k == holder else [] for k in range(3)], NoHouse, what)

    def test_first_and_last_among_others(self):
        for what, number in self.numbers.items():
            self.refused([[number, 1, 2], [0], [1]], NoHouse, what)
            self.refused([[1, 2], [0], [1, 0, number]], NoHouse, what)

    def test_straight_behind_the_own_house(self):
        for what, number in self.numbers.items():
            self.refused([[1], [2], [2, number]], NoHouse, what)
            self.refused([[0, number], [2], [1]], NoHouse, what)

    def test_further_behind_the_own_house(self):
        for what, number in self.numbers.items():
            self.refused([[], [0, 1, 2, number], []], NoHouse, what)

    def test_one_holder(self):
        for number in (-2, -1, 1, 2, HUGE, -HUGE):
            self.refused([[number]], NoHouse)
            self.refused([[0, number]], NoHouse)

    def test_a_hundred_holders_and_somewhat_more(self):
        for count in (100, 107):
            for number in (-count, -1, count):
                self.refused([[]] * (count - 1) + [[number]], NoHouse)
                self.refused([[5, number]] + [[]] * (count - 1), NoHouse)


class HousesNamedTwice(RefusalCase):
    def test_one_after_the_other(self):
        self.refused([[1, 1], [], []], Twice)
        self.refused([[], [], [0, 0]], Twice)

    def test_with_others_between(self):
        self.refused([[], [2, 0, 2], []], Twice)
        self.refused([[1, 2, 3, 1], [], [], []], Twice)

    def test_the_own_house(self):
        self.refused([[0, 0]], Twice)
        self.refused([[], [1, 0, 1]], Twice)

    def test_behind_the_own_house(self):
        self.refused([[0, 1, 1], [], []], Twice)
        self.refused([[], [], [1, 2, 0, 0]], Twice)

    def test_ahead_of_the_own_house_and_behind_it(self):
        self.refused([[1, 0, 1], []], Twice)

    def test_in_several_lists(self):
        self.refused([[1, 1], [0, 0]], Twice)

    def test_three_times(self):
        self.refused([[1, 1, 1], []], Twice)

    def test_in_one_list_of_a_hundred_holders_and_somewhat_more(self):
        for count in (100, 107):
            full = list(range(count))
            self.refused([full] * (count - 1) + [full + [count - 1]], Twice)
            self.refused([full + [50]] + [full] * (count - 1), Twice)


class Both(RefusalCase):
    def test_in_one_list(self):
        for number in (-1, 3, HUGE, -HUGE):
            self.refused([[1, 1, number], [], []], NoHouse)
            self.refused([[number, 1, 1], [], []], NoHouse)
            self.refused([[1, number, 1], [], []], NoHouse)

    def test_in_two_lists_with_either_first(self):
        for number in (-1, 3, HUGE, -HUGE):
            self.refused([[1, 1], [number], []], NoHouse)
            self.refused([[number], [0, 0], []], NoHouse)
            self.refused([[1, 1], [], [0, number]], NoHouse)
            self.refused([[1, number], [], [0, 0]], NoHouse)

    def test_behind_the_own_house(self):
        for number in (-1, 3, HUGE, -HUGE):
            self.refused([[0, 1, 1], [], [2, number]], NoHouse)
            self.refused([[0, number], [], [2, 1, 1]], NoHouse)
            self.refused([[0, 1, 1, number], [], []], NoHouse)
            self.refused([[1, 1], [], [2, number]], NoHouse)
            self.refused([[2, 0, number], [0, 0], []], NoHouse)

    def test_a_number_that_is_no_house_twice(self):
        for number in (-1, 2, HUGE, -HUGE):
            self.refused([[number, number], []], NoHouse)


class NotRefused(RefusalCase):
    def test_nobody(self):
        self.assertEqual(rounds([]), [])
        self.assertEqual(dealt([]), [])
        self.assertEqual(gladder([], [], []), [])
        self.assertIs(undone_by([], [], [], []), False)

    def test_any_right_list(self):
        for told in lists_of(3):
            self.not_refused([told, told, told])

    def test_a_house_in_two_lists(self):
        self.not_refused([[1], [], [1]])

    def test_the_first_and_the_last_house(self):
        self.not_refused([[1], [0]])
        self.not_refused([[99, 0]] + [[]] * 98 + [[0, 99]])

    def test_more_than_a_hundred_holders(self):
        self.not_refused([list(range(101))] * 101)
        self.not_refused([list(range(120))] * 120)


class RatherRefusesNothing(unittest.TestCase):
    def test_lists_of_the_others(self):
        self.assertIs(rather([[1], [7, -7], [0, 0]], 0, 1, 0), True)


if __name__ == "__main__":
    unittest.main()
