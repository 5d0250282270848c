"""Point [7]: divided and whole_quotient."""

import unittest
from fractions import Fraction

from boughswap.errors import NoPoly
from boughswap.polys import added, divided, multiplied, raised, whole_quotient
from boughswap.ratios import is_fraction
from helping import GREAT, OTHER_GREAT, Checks, no_polys, some_polys, spread

BOTH = [divided, whole_quotient]
GAP = (1, -1, 1)
SEVEN_TREES = (0, -1, 0, 0, 0, 0, 0, 1)


def wholes(numbers):
    return tuple((number, 1) for number in numbers)


class DividedTest(Checks):

    def test_the_example_of_the_document(self):
        self.tells((wholes((0, -1, -1, 0, 1, 1)), ()), divided(SEVEN_TREES, GAP))

    def test_the_paper_of_two_trees_and_one(self):
        self.tells((((1, 1),), ((-1, 1),)), divided((0, -1, 1), GAP))

    def test_without_a_rest(self):
        self.tells((((1, 1), (1, 1)), ()), divided((-1, 0, 1), (-1, 1)))
        self.tells((((7, 1),), ()), divided((7, 14), (1, 2)))
        self.tells((((0, 1), (0, 1), (1, 1)), ()), divided((0, 0, 1, 1), (1, 1)))

    def test_with_a_rest(self):
        self.tells((((0, 1), (1, 1)), ((1, 1),)), divided((1, 1, 1), (1, 1)))
        self.tells((((1, 1),), ((0, 1), (2, 1))), divided((1, 1, 1), GAP))
        self.tells((((-1, 1),), ((5, 1), (-3, 1))), divided((4, -2, -1), GAP))

    def test_numbers_that_are_not_whole(self):
        self.tells((((1, 2), (1, 2)), ()), divided((1, 1), (2,)))
        self.tells((((-1, 2),), ()), divided((1, 1), (-2, -2)))
        self.tells((((1, 4), (1, 2)), ((3, 4),)), divided((1, 1, 1), (1, 2)))
        self.tells((((-1, 4), (-1, 2)), ((3, 4),)), divided((1, 1, 1), (-1, -2)))
        self.tells((((2, 3),), ((1, 3),)), divided((1, 2), (1, 3)))

    def test_noughts_on_the_way(self):
        self.tells((((1, 1), (0, 1), (0, 1), (1, 1)), ()), divided((1, 1, 0, 1, 1), (1, 1)))
        self.tells((((0, 1), (0, 1), (1, 2)), ((5, 1),)), divided((5, 0, 0, 1), (0, 2)))
        self.tells((((0, 1), (1, 1)), ()), divided((0, 0, 0, 1), (0, 0, 1)))

    def test_noughts_at_the_end_of_the_rest_are_left_out(self):
        self.tells((((0, 1), (1, 1)), ((1, 1),)), divided((1, 1, 1, 1), (1, 1, 1)))
        self.tells((((1, 1),), ((0, 1), (3, 1))), divided((1, 4, 0, 2), (1, 1, 0, 2)))

    def test_shorter_than_the_divisor(self):
        self.tells(((), ((1, 1), (-2, 1))), divided((1, -2), GAP))
        self.tells(((), ((GREAT, 1),)), divided((GREAT,), (1, 1)))

    def test_nought(self):
        for other in some_polys():
            if other:
                self.tells(((), ()), divided((), other))

    def test_by_itself_and_by_one(self):
        for one in some_polys():
            self.tells((wholes(one), ()), divided(one, (1,)))
            self.tells((wholes([-number for number in one]), ()), divided(one, (-1,)))
            if one:
                self.tells((((1, 1),), ()), divided(one, one))

    def check_pair(self, one, other):
        quotient, rest = divided(one, other)
        self.assertIsInstance(divided(one, other), tuple)
        for told in (quotient, rest):
            self.assertIsInstance(told, tuple)
            self.assertTrue(all(is_fraction(number) for number in told))
            self.assertTrue(not told or told[-1] != (0, 1))
        self.assertLess(len(rest), len(other))
        back = [Fraction(0)] * max(len(one), len(quotient) + len(other), len(rest))
        for i, x in enumerate(quotient):
            for j, y in enumerate(other):
                back[i + j] += Fraction(*x) * y
        for k, x in enumerate(rest):
            back[k] += Fraction(*x)
        self.assertEqual(list(one), back[:len(one)])
        self.assertEqual(0, sum(abs(number) for number in back[len(one):]))

    def test_quotient_times_other_and_rest_added_is_one_again(self):
        for one in some_polys():
            for other in some_polys():
                if other:
                    self.check_pair(one, other)
                    self.check_pair(multiplied(one, other), other)
                    self.check_pair(added(raised(one, 4), other), other)

    def test_201_numbers_of_sixty_figures(self):
        one = tuple(GREAT - 7 * number for number in range(201))
        self.check_pair(one, tuple(OTHER_GREAT + number * number for number in range(150)))
        self.check_pair(multiplied(one, one), tuple(spread(180, 9)) + (-6,))


class WholeQuotientTest(Checks):

    def test_the_example_of_the_document(self):
        self.tells((0, -1, -1, 0, 1, 1), whole_quotient(SEVEN_TREES, GAP))

    def test_the_product_with_it_is_one(self):
        for quotient in some_polys():
            for other in some_polys():
                if other:
                    self.tells(quotient, whole_quotient(multiplied(quotient, other), other))

    def test_none_where_there_is_a_rest(self):
        self.assertIsNone(whole_quotient((0, -1, 1), GAP))
        self.assertIsNone(whole_quotient((1, 1, 1), (1, 1)))
        self.assertIsNone(whole_quotient((1,), (1, 1)))
        for one in some_polys():
            self.assertIsNone(whole_quotient(added(raised(one, 1), (1,)), (0, 1)))

    def test_none_where_numbers_are_not_whole(self):
        self.assertIsNone(whole_quotient((1,), (2,)))
        self.assertIsNone(whole_quotient((2, 3), (2,)))
        self.assertIsNone(whole_quotient((3, 2), (2,)))
        self.assertIsNone(whole_quotient((1, 1), (2, 2)))
        self.assertIsNone(whole_quotient((1, 4, 4), (2, 4)))
        self.assertIsNone(whole_quotient((2, 3, 2), (2, 2)))
        self.assertIsNone(whole_quotient((GREAT,), (2,)))

    def test_nought_and_divisors_with_a_common_divisor(self):
        self.tells((), whole_quotient((), (2, 4)))
        self.tells((1,), whole_quotient((2, 4), (2, 4)))
        self.tells((-1,), whole_quotient((2, 4), (-2, -4)))
        self.tells((3, 1), whole_quotient((6, 2), (2,)))

    def test_201_numbers(self):
        one = (GREAT,) * 200 + (1,)
        self.tells(one, whole_quotient(multiplied(one, one), one))


class RefusalsTest(Checks):

    def test_by_names(self):
        self.tells((((1, 1),), ((-1, 1),)), divided(other=GAP, one=(0, -1, 1)))
        self.tells((0, -1, -1, 0, 1, 1), whole_quotient(other=GAP, one=SEVEN_TREES))

    def test_nought_as_the_divisor_is_refused(self):
        for one in some_polys():
            for call in BOTH:
                self.refused(NoPoly, call, one, ())

    def test_what_is_no_polynomial_is_refused_in_each_place(self):
        for thing in no_polys():
            for call in BOTH:
                self.refused(NoPoly, call, thing, GAP)
                self.refused(NoPoly, call, SEVEN_TREES, thing)
                self.refused(NoPoly, call, (), thing)
                self.refused(NoPoly, call, thing, ())
                self.refused(NoPoly, call, thing, thing)

    def test_asked_again_the_answer_is_the_same(self):
        for call in BOTH:
            self.assertEqual(call((3, -7, 1, 4), (2, 5)), call((3, -7, 1, 4), (2, 5)))


if __name__ == "__main__":
    unittest.main()
