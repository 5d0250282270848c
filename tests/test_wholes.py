"""Point [4]: is_whole."""

import unittest

from boughswap.wholes import is_whole
from helping import GREAT, GREATS, Checks, Sulky, no_wholes

BOUNDS = [(None, None), (0, None), (None, 0), (0, 1), (1, 1), (-5, 5), (1, 0), (-GREAT, GREAT), (GREAT, None)]


class IsWholeTest(Checks):

    def test_below_at_between_and_above_the_bounds(self):
        expected = {1: False, 2: False, 3: True, 4: True, 5: True, 6: True, 7: False, 8: False}
        for number, answer in expected.items():
            self.assertIs(answer, is_whole(number, 3, 6), number)

    def test_bounds_below_nought(self):
        expected = {-7: False, -6: True, -4: True, -3: True, -2: False, 0: False, 4: False}
        for number, answer in expected.items():
            self.assertIs(answer, is_whole(number, -6, -3), number)

    def test_bounds_around_nought(self):
        expected = {-3: False, -2: True, -1: True, 0: True, 1: True, 2: True, 3: False}
        for number, answer in expected.items():
            self.assertIs(answer, is_whole(number, -2, 2), number)

    def test_nought_as_a_bound_is_a_bound(self):
        self.assertIs(False, is_whole(-1, 0, None))
        self.assertIs(True, is_whole(0, 0, None))
        self.assertIs(True, is_whole(1, 0, None))
        self.assertIs(False, is_whole(1, None, 0))
        self.assertIs(True, is_whole(0, None, 0))
        self.assertIs(True, is_whole(-1, None, 0))
        self.assertIs(True, is_whole(0, 0, 0))
        self.assertIs(False, is_whole(1, 0, 0))
        self.assertIs(False, is_whole(-1, 0, 0))

    def test_both_bounds_alike_and_bounds_that_leave_nothing(self):
        self.assertEqual([False, True, False], [is_whole(n, 4, 4) for n in (3, 4, 5)])
        self.assertEqual([False] * 4, [is_whole(n, 5, 4) for n in (3, 4, 5, 6)])

    def test_no_bound_on_either_side(self):
        for number in [0, 1, -1, 7, -7, *GREATS, 10 ** 400, -(10 ** 400)]:
            self.assertIs(True, is_whole(number, None, None), number)
        self.assertIs(True, is_whole(GREAT, 5, None))
        self.assertIs(False, is_whole(-GREAT, 5, None))
        self.assertIs(False, is_whole(GREAT, None, 5))
        self.assertIs(True, is_whole(-GREAT, None, 5))

    def test_great_bounds(self):
        for great in GREATS:
            self.assertIs(True, is_whole(great, great, great), great)
            self.assertIs(False, is_whole(great - 1, great, None), great)
            self.assertIs(True, is_whole(great + 1, great, None), great)
            self.assertIs(False, is_whole(great + 1, None, great), great)
            self.assertIs(True, is_whole(great - 1, None, great), great)

    def test_truths_are_no_whole_numbers(self):
        for low, high in BOUNDS:
            self.assertIs(False, is_whole(True, low, high), (low, high))
            self.assertIs(False, is_whole(False, low, high), (low, high))

    def test_other_sorts_are_none_whatever_the_bounds(self):
        for thing in no_wholes() + [[[]], ((),), {"a": 1}, Sulky]:
            for low, high in BOUNDS:
                self.assertIs(False, is_whole(thing, low, high))

    def test_by_names(self):
        self.assertIs(True, is_whole(high=9, thing=5, low=1))
        self.assertIs(False, is_whole(high=4, thing=5, low=1))
        self.assertIs(False, is_whole(high=9, thing=5, low=6))
        self.assertIs(True, is_whole(5, high=None, low=None))


if __name__ == "__main__":
    unittest.main()
