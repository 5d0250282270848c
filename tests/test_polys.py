"""Point [6]: polynomials."""

import unittest

from boughswap.errors import NoNumber, NoPoly
from boughswap.polys import added, downs, is_poly, multiplied, poly, raised, taken_off, ups, weight_of, worth_at
from helping import GREAT, GREATS, Checks, Sulky, no_polys, no_wholes, odd_numbers, some_polys

PAIRS = [added, taken_off, multiplied]
ALONE = [ups, downs, weight_of]


def worth_by_powers(one, x):
    return sum(number * x ** k for k, number in enumerate(one))


class IsPolyTest(Checks):

    def test_polynomials(self):
        for thing in [(), (1,), (-1,), (0, 1), (0, 0, -1), (1, 0, 1), (1, -1, 1), tuple(GREATS), (0,) * 200 + (1,)]:
            self.assertIs(True, is_poly(thing), thing)
        self.assertIs(True, is_poly(thing=(1, 2)))

    def test_what_is_none(self):
        for thing in no_polys():
            self.assertIs(False, is_poly(thing))

    def test_truths_are_no_numbers_of_it(self):
        for thing in [(True,), (1, True), (True, 1), (False, 1), (1, False, 1), (1, False)]:
            self.assertIs(False, is_poly(thing), thing)


class PolyTest(Checks):

    def test_noughts_at_the_end_are_left_out(self):
        expected = [
            ((), ()), ((0,), ()), ((0, 0, 0), ()), ((5,), (5,)), ((5, 0), (5,)), ((0, 5), (0, 5)),
            ((0, 5, 0, 0), (0, 5)), ((1, 0, 2), (1, 0, 2)), ((1, 0, 2, 0), (1, 0, 2)), ((-1, 0), (-1,)),
            ((0, 0, -GREAT, 0), (0, 0, -GREAT)), ((0,) * 201, ()), ((3,) + (0,) * 200, (3,)),
        ]
        for numbers, answer in expected:
            self.tells(answer, poly(numbers))
            self.tells(answer, poly(list(numbers)))
            self.tells(answer, poly(numbers=list(numbers)))

    def test_the_list_is_not_changed_and_not_kept(self):
        numbers = [1, 2, 0, 0]
        one = poly(numbers)
        self.assertEqual([1, 2, 0, 0], numbers)
        numbers[0] = 9
        self.tells((1, 2), one)

    def test_other_sorts_are_refused(self):
        for thing in odd_numbers():
            self.refused(NoPoly, poly, thing)


class SumsTest(Checks):

    def test_small_sums(self):
        self.tells((4, 6), added((1, 2), (3, 4)))
        self.tells((-2, -2), taken_off((1, 2), (3, 4)))
        self.tells((3, 10, 8), multiplied((1, 2), (3, 4)))
        self.tells((1, 2, 5), added((1, 2), (0, 0, 5)))
        self.tells((1, 2, 5), added((0, 0, 5), (1, 2)))
        self.tells((1, 2, -5), taken_off((1, 2), (0, 0, 5)))
        self.tells((-1, -2, 5), taken_off((0, 0, 5), (1, 2)))
        self.tells((1, 0, 1, 0, 1), multiplied((1, 1, 1), (1, -1, 1)))
        self.tells((-1, 0, 1), multiplied((1, 1), (-1, 1)))

    def test_noughts_at_the_end_of_an_answer_are_left_out(self):
        self.tells((1,), added((1, 2), (0, -2)))
        self.tells((4,), added((1, 2, -3), (3, -2, 3)))
        self.tells((0, 5), taken_off((1, 5, 7), (1, 0, 7)))
        self.tells((), added((1, 2), (-1, -2)))
        for one in some_polys():
            self.tells((), taken_off(one, one))

    def test_with_nought(self):
        for one in some_polys():
            self.tells(one, added(one, ()))
            self.tells(one, added((), one))
            self.tells(one, taken_off(one, ()))
            self.tells(tuple(-number for number in one), taken_off((), one))
            self.tells((), multiplied(one, ()))
            self.tells((), multiplied((), one))

    def test_against_the_sums_at_each_place(self):
        for one in some_polys():
            for other in some_polys():
                self.check_pair(one, other)

    def check_pair(self, one, other):
        many = max(len(one), len(other))
        first = list(one) + [0] * (many - len(one))
        second = list(other) + [0] * (many - len(other))
        self.tells(poly([x + y for x, y in zip(first, second)]), added(one, other))
        self.tells(poly([x - y for x, y in zip(first, second)]), taken_off(one, other))
        product = multiplied(one, other)
        self.assertIs(True, is_poly(product))
        self.assertEqual(len(one) + len(other) - 1 if one and other else 0, len(product))
        for k in range(len(product)):
            parts = [one[i] * other[k - i] for i in range(len(one)) if 0 <= k - i < len(other)]
            self.assertEqual(sum(parts), product[k])

    def test_products_may_be_handed_in_again(self):
        one = (GREAT,) * 201
        square = multiplied(one, one)
        self.assertEqual(401, len(square))
        self.assertEqual(201 * GREAT * GREAT, square[200])
        self.assertEqual(201 ** 4 * GREAT ** 4, sum(multiplied(square, square)))
        self.tells((), taken_off(square, square))

    def test_by_names(self):
        self.tells((4, 6), added(other=(3, 4), one=(1, 2)))
        self.tells((-2, -2), taken_off(other=(3, 4), one=(1, 2)))
        self.tells((3, 10, 8), multiplied(other=(3, 4), one=(1, 2)))

    def test_what_is_no_polynomial_is_refused_in_each_place(self):
        for thing in no_polys():
            for call in PAIRS:
                self.refused(NoPoly, call, thing, (1, 2))
                self.refused(NoPoly, call, (1, 2), thing)
                self.refused(NoPoly, call, thing, ())
                self.refused(NoPoly, call, (), thing)
        for call in PAIRS:
            self.refused(NoPoly, call, [1], [1])
            self.refused(NoPoly, call, Sulky(), Sulky())


class RaisedTest(Checks):

    def test_noughts_are_put_ahead(self):
        self.tells((1, 2), raised((1, 2), 0))
        self.tells((0, 1, 2), raised((1, 2), 1))
        self.tells((0, 0, 0, -7), raised((-7,), 3))
        self.tells((0, 0, 0, 5), raised((0, 5), 2))
        for many in range(101):
            self.tells((0,) * many + (GREAT, 0, -1), raised((GREAT, 0, -1), many))

    def test_nought_stays(self):
        for many in range(101):
            self.tells((), raised((), many))

    def test_by_names(self):
        self.tells((0, 0, 3), raised(many=2, one=(3,)))

    def test_refusals(self):
        for many in [-1, -2, -100, 101, 102, 200, GREAT, -GREAT, *no_wholes()]:
            self.refused(NoNumber, raised, (1, 2), many)
            self.refused(NoNumber, raised, (), many)
        for thing in no_polys():
            self.refused(NoPoly, raised, thing, 1)

    def test_one_is_refused_ahead_of_many(self):
        for many in [-1, 101, None, True, "1", Sulky()]:
            self.refused(NoPoly, raised, (1, 0), many)
            self.refused(NoPoly, raised, None, many)
            self.refused(NoPoly, raised, many=many, one=[1])


class WorthAtTest(Checks):

    def test_small_values(self):
        self.tells(0, worth_at((), 5))
        self.tells(7, worth_at((7,), 5))
        self.tells(7, worth_at((7,), 0))
        self.tells(3, worth_at((3, 9, 9), 0))
        self.tells(321, worth_at((1, 2, 3), 10))
        self.tells(281, worth_at((1, 2, 3), -10))
        self.tells(1 - 3 + 9, worth_at((1, -1, 1), 3))
        self.tells(0, worth_at((-6, 1, 1), 2))
        self.tells(0, worth_at((-6, 1, 1), -3))

    def test_against_powers(self):
        for one in some_polys():
            for x in [0, 1, -1, 2, -3, 10, *GREATS]:
                self.tells(worth_by_powers(one, x), worth_at(one, x))

    def test_by_names(self):
        self.tells(321, worth_at(x=10, one=(1, 2, 3)))

    def test_refusals(self):
        for x in no_wholes():
            self.refused(NoNumber, worth_at, (1, 2), x)
            self.refused(NoNumber, worth_at, (), x)
            self.refused(NoPoly, worth_at, (1, 0), x)
        for thing in no_polys():
            self.refused(NoPoly, worth_at, thing, 1)


class UpsAndDownsTest(Checks):

    def test_small_ones(self):
        self.tells((1, 0, 3), ups((1, -2, 3)))
        self.tells((0, 2), downs((1, -2, 3)))
        self.tells((1,), ups((1, 0, -2)))
        self.tells((0, 0, 2), downs((1, 0, -2)))
        self.tells((), ups(()))
        self.tells((), downs(()))
        self.tells((), ups((-1, -2)))
        self.tells((1, 2), downs((-1, -2)))
        self.tells((), downs((1, 2)))
        self.tells((0, 0, 4), ups((0, 0, 4)))

    def test_what_the_point_says_of_both(self):
        for one in some_polys() + [tuple(GREATS)]:
            above, below = ups(one), downs(one)
            self.assertTrue(is_poly(above) and is_poly(below))
            self.assertTrue(all(number >= 0 for number in above + below))
            self.tells(one, taken_off(above, below))
            self.assertTrue(all(x == 0 or y == 0 for x, y in zip(above, below)))


class WeightOfTest(Checks):

    def test_weights(self):
        self.tells(0, weight_of(()))
        self.tells(5, weight_of((5,)))
        self.tells(5, weight_of((-5,)))
        self.tells(3, weight_of((1, -1, 1)))
        self.tells(4, weight_of((0, -1, -1, 0, 1, 1)))
        self.tells(3 * GREAT, weight_of((GREAT, 0, -GREAT, -GREAT)))
        for one in some_polys():
            self.tells(sum(ups(one)) + sum(downs(one)), weight_of(one))


class AloneTest(Checks):

    def test_by_names(self):
        self.tells((1,), ups(one=(1, -1)))
        self.tells((0, 1), downs(one=(1, -1)))
        self.tells(2, weight_of(one=(1, -1)))

    def test_refusals(self):
        for thing in no_polys():
            for call in ALONE:
                self.refused(NoPoly, call, thing)

    def test_asked_again_the_answer_is_the_same(self):
        for call in ALONE:
            self.assertEqual(call((3, -7, 1)), call((3, -7, 1)))


if __name__ == "__main__":
    unittest.main()
