"""1.1, and 0.3 as far as it speaks of shares."""

import copy
import unittest

from glazework.shares import is_share
from samples import HUGE, OTHER_THINGS, SPOTS, STRENGTHS


class Shares(unittest.TestCase):
    def accepted(self, thing):
        self.assertIs(is_share(thing), True, thing)

    def refused(self, thing):
        self.assertIs(is_share(thing), False, thing)

    def test_nought_and_one(self):
        self.accepted((0, 1))
        self.accepted((1, 1))

    def test_between(self):
        for thing in ((1, 2), (1, 3), (2, 3), (8, 9), (35, 36), (254, 255)):
            self.accepted(thing)

    def test_all_small_pairs(self):
        for under in range(-3, 13):
            for top in range(-3, 13):
                divisors = [number for number in range(2, 13) if top % number == 0 and under % number == 0]
                wanted = 0 < under and 0 <= top <= under and not divisors
                self.assertIs(is_share((top, under)), wanted, (top, under))

    def test_a_common_divisor(self):
        for thing in ((2, 4), (3, 9), (6, 4 * 6), (0, 2), (0, 7), (2, 2), (14, 21), (255, 255)):
            self.refused(thing)

    def test_under_nought_or_below(self):
        for thing in ((0, 0), (1, 0), (0, -1), (1, -1), (-1, -1), (-1, -2), (1, -2)):
            self.refused(thing)

    def test_top_above_under_or_below_nought(self):
        for thing in ((2, 1), (3, 2), (-1, 1), (-1, 2), (-3, 2)):
            self.refused(thing)

    def test_truths_are_no_numbers(self):
        for thing in ((True, 1), (False, 1), (1, True), (0, True), (True, True), (False, True), (True, 2)):
            self.refused(thing)

    def test_other_numbers(self):
        for thing in (("1", 2), (1, "2"), (None, 1), (0, None), ((0,), 1), (0, (1,)), ([0], 1)):
            self.refused(thing)

    def test_lists_are_no_tuples(self):
        for thing in ([0, 1], [1, 1], [1, 2], [], [[0, 1]]):
            self.refused(thing)

    def test_too_few_or_too_many(self):
        for thing in ((), (0,), (1,), (0, 1, 1), (1, 2, 1), (1, 2, None), ((0, 1),), ((0, 1), (0, 1))):
            self.refused(thing)

    def test_far_greater_than_two_to_64(self):
        self.accepted((1, HUGE))
        self.accepted((HUGE, HUGE + 1))
        self.accepted((2 ** 200, 3 ** 130))
        self.refused((HUGE, HUGE))
        self.refused((HUGE + 1, HUGE))
        self.refused((-HUGE, HUGE + 1))
        self.refused((7 * HUGE, 7 * HUGE + 7))
        self.refused((2, HUGE))

    def test_any_other_thing(self):
        for thing in OTHER_THINGS + SPOTS:
            self.refused(thing)

    def test_nothing_is_changed(self):
        for thing in OTHER_THINGS + STRENGTHS:
            before = copy.deepcopy(thing)
            is_share(thing)
            self.assertEqual(thing, before)


if __name__ == "__main__":
    unittest.main()
