"""[35] to [38]: which racks are alike, by which turning, and the papers of those that aren't; [3] of racks."""

import unittest
from fractions import Fraction
from itertools import combinations_with_replacement, permutations

from boughswap.decide import are_alike, parting_paper, quotient_of, turning_between, verdict_of
from boughswap.errors import NoRack, NotAlike, TooLong
from boughswap.kinds import Kind
from boughswap.noughts import contrary_of, grown_by, nought_of
from boughswap.steps import closes_of, opens_of, rack_after
from boughswap.turnings import Turning
from growing import Growing
from helping import FIVE, LINES, TIP_FORK, Checks, no_racks, tip_fork
from some_racks import MORE_MAKERS, alike_pairs, more_kinds, racks_of, times_gap

# The gap is 2, and 2 with the second power.
TWOS = [("a", 0), ("b", 0), ("c", 1), ("d", 2), ("e", 2)]


def trimmed_off(numbers):
    numbers = list(numbers)
    while numbers and numbers[-1] == 0:
        numbers.pop()
    return tuple(numbers)


def less(one, two):
    """The numbers of the polynomial of one less that of two."""
    return [one.count(power) - two.count(power) for power in range(max(one + two, default=0) + 1)]


def small_racks(most_forms, most_trees):
    return [rack for many in range(most_forms + 1)
            for rack in combinations_with_replacement(range(most_trees + 1), many)]


def reached(kind, rack, most_forms, most_trees):
    """All racks, forms rising, to which steps lead on racks that are not too great."""
    found = {rack}
    left = [rack]
    while left:
        one = left.pop()
        behind = [rack_after(kind, one, step) for step in opens_of(one)]
        for places in set(permutations(one)) if len(one) <= 5 else [one]:
            behind.extend([rack_after(kind, places, step) for step in closes_of(kind, places)])
        for other in behind:
            other = tuple(sorted(other))
            if len(other) <= most_forms and max(other, default=0) <= most_trees and other not in found:
                found.add(other)
                left.append(other)
    return found


class QuotientTest(Checks):

    def test_example(self):
        self.tells_both((0, -1, -1, 0, 1, 1), quotient_of, kind=tip_fork(), one=(7,), two=(1,))
        self.tells((0, 1, 1, 0, -1, -1), quotient_of(tip_fork(), (1,), (7,)))
        self.tells(None, quotient_of(tip_fork(), (2,), (1,)))
        self.tells((), quotient_of(tip_fork(), (2, 0, 1), (1, 2, 0)))
        # One open: the gap is taken off once, moved up.
        self.tells((0, 0, -1), quotient_of(tip_fork(), (3,), (2, 4)))
        self.tells((0, 0, 1), quotient_of(tip_fork(), (4, 2), (3,)))

    def test_without_trees_there_may_be_a_quotient(self):
        # 1 less x and the square of it added is the gap itself.
        self.tells((1,), quotient_of(tip_fork(), (0, 2), (1,)))
        self.tells((), quotient_of(tip_fork(), (), ()))
        self.tells(None, quotient_of(tip_fork(), (0, 0), (0,)))
        self.tells((1, 1), quotient_of(tip_fork(), (0, 3), ()))
        self.tells((-1, -1), quotient_of(tip_fork(), (), (0, 3)))

    def test_of_a_product_with_the_gap(self):
        for kind in more_kinds():
            for one, two, numbers in alike_pairs(kind, 30, 1):
                self.tells(trimmed_off(numbers), quotient_of(kind, one, two))
                self.tells(trimmed_off([-number for number in numbers]), quotient_of(kind, two, one))

    def test_near_by(self):
        for kind in more_kinds():
            for one, two, _ in alike_pairs(kind, 10, 2):
                for more in ((0,), (1,), (7,)):
                    self.tells(None, quotient_of(kind, one + more, two))
                    self.tells(None, quotient_of(kind, one, two + more))

    def test_a_common_divisor(self):
        kind = Kind(list(TWOS))
        self.tells((2, 0, 2), kind.gap())
        self.tells((1,), quotient_of(kind, (0, 0, 2, 2, 1), (1,)))
        # The half of the gap divides it, but by no whole number.
        self.tells(None, quotient_of(kind, (0, 2, 1), (1,)))
        self.tells((0, -1), quotient_of(kind, (2,), (1, 1, 2, 3, 3)))

    def test_no_rack(self):
        for rack in no_racks():
            for call in (quotient_of, are_alike, parting_paper, turning_between, verdict_of):
                self.refused_both(NoRack, call, kind=tip_fork(), one=rack, two=None)
                self.refused_both(NoRack, call, kind=tip_fork(), one=(1,), two=rack)


class AlikeTest(Checks):

    def test_examples(self):
        kind = tip_fork()
        self.tells_both(True, are_alike, kind=kind, one=(7,), two=(1,))
        self.tells_both(False, are_alike, kind=kind, one=(2,), two=(1,))
        self.tells(False, are_alike(kind, (0, 0), (2, 0)))
        for many in range(2, 7):
            self.tells(False, are_alike(kind, (1,), (many,)))

    def test_the_same_forms_in_another_order(self):
        for kind in more_kinds():
            for rack in ((), (0,), (0, 0, 0), (1, 0, 2), (5, 5, 1)):
                for other in set(permutations(rack)):
                    self.tells(True, are_alike(kind, rack, other))
                    self.tells((), quotient_of(kind, rack, other))

    def test_without_trees(self):
        kind = tip_fork()
        self.tells(False, are_alike(kind, (0, 3), ()))
        self.tells(False, are_alike(kind, (), (0, 3)))
        self.tells(False, are_alike(kind, (), (0,)))
        self.tells(False, are_alike(kind, (0,), (0, 0)))
        self.tells(True, are_alike(kind, (0, 3, 1), (1,)))
        # Two forms of no trees and a third, with the gap 2 and 2 times the second power.
        self.tells(False, are_alike(Kind(list(TWOS)), (0, 0), (1,)))

    def test_led_to_one_another(self):
        for makers in (TIP_FORK, [("a", 0), ("b", 1), ("c", 2)], [("fork", 2), ("ash", 0), ("oak", 0)]):
            kind = Kind(list(makers))
            racks = small_racks(2, 3)
            for rack in racks:
                found = reached(kind, rack, 5, 5)
                for other in racks:
                    if other in found:
                        self.tells(True, are_alike(kind, rack, other))
                for other in list(found)[:60]:
                    self.tells(True, are_alike(kind, other, rack))

    def test_what_is_told_alike_is_led_there(self):
        racks = small_racks(3, 3)
        for makers in (TIP_FORK, LINES, [("a", 0), ("b", 1), ("c", 2)]):
            kind = Kind(list(makers))
            alike = 0
            for one in racks:
                for two in racks:
                    if are_alike(kind, one, two):
                        alike += 1
                        self.tells(two, turning_between(kind, one, two).end)
            self.assertLess(len(racks), alike)

    def test_put_beside_a_nought(self):
        for kind in more_kinds():
            for rack in ((1,), (3, 0), (2, 2)):
                self.tells(True, are_alike(kind, rack, rack + nought_of(kind)))
                self.tells(True, are_alike(kind, rack + (0, 2) + contrary_of(kind, (0, 2)), rack))
            self.tells(False, are_alike(kind, (0,), (0,) + nought_of(kind)))


class PaperTest(Checks):

    def test_each_paper(self):
        kind = tip_fork()
        self.tells_both(("rest", ((1, 1),), ((-1, 1),)), parting_paper, kind=kind, one=(2,), two=(1,))
        self.tells_both(("fixed", "first"), parting_paper, kind=kind, one=(0, 0), two=(2, 0))
        self.tells_both(("fixed", "second"), parting_paper, kind=kind, one=(2, 0), two=(0, 0))
        self.tells(("fixed", "first"), parting_paper(kind, (0, 0), (0,)))
        self.tells(("fixed", "first"), parting_paper(kind, (), (0,)))
        self.tells(("fixed", "first"), parting_paper(kind, (), (1,)))
        self.tells(("fixed", "second"), parting_paper(kind, (1,), ()))
        # Also where there is a quotient.
        self.tells(("fixed", "first"), parting_paper(kind, (), (0, 3)))
        self.tells(("fixed", "second"), parting_paper(kind, (0, 3), ()))
        self.tells(("fixed", "second"), parting_paper(kind, (1,), (0,) * 7))
        self.tells(("rest", (), ((1, 1),)), parting_paper(kind, (0, 1), (1,)))
        self.tells(("rest", (), ((-1, 1),)), parting_paper(kind, (1,), (0, 1)))

    def test_fractions_without_a_rest(self):
        kind = Kind(list(TWOS))
        self.tells(("rest", ((1, 2),), ()), parting_paper(kind, (0, 2, 1), (1,)))
        self.tells(("rest", ((0, 1), (-3, 2)), ()), parting_paper(kind, (7,), (7, 1, 1, 1, 3, 3, 3)))
        told = parting_paper(Kind([("a", 0), ("b", 4), ("c", 4), ("d", 4), ("e", 4)]), (7, 1), (3, 3))
        self.tells(("rest", ((1, 16), (0, 1), (0, 1), (1, 4)), ((-1, 16), (17, 16), (0, 1), (-9, 4))), told)

    def test_none_of_those_alike(self):
        for kind in more_kinds():
            for one, two, _ in alike_pairs(kind, 15, 3):
                self.tells(None, parting_paper(kind, one, two))
                self.tells_both(None, parting_paper, kind=kind, one=two, two=one)
        for rack in ((), (0, 0), (1, 0)):
            self.tells(None, parting_paper(tip_fork(), rack, rack[::-1]))

    def test_the_division_comes_out(self):
        for kind in more_kinds():
            pairs = alike_pairs(kind, 8, 4)
            for (one, _, _), (_, two, _) in zip(pairs, pairs[1:] + pairs[:1]):
                paper = parting_paper(kind, one, two)
                if paper is None:
                    self.tells(True, are_alike(kind, one, two))
                    continue
                self.check_rest(kind, one, two, paper)

    def check_rest(self, kind, one, two, paper):
        word, quotient, rest = paper
        self.tells("rest", word)
        numbers = times_gap(kind, [Fraction(*number) for number in quotient])
        for power, number in enumerate(rest):
            numbers[power:power + 1] = [(numbers + [0] * 9)[power] + Fraction(*number)]
        self.assertEqual(trimmed_off(less(one, two)), trimmed_off(numbers))
        gap = trimmed_off(times_gap(kind, [1]))
        self.assertLess(len(rest), len(gap))
        self.assertTrue(rest or any(bottom != 1 for _, bottom in quotient))
        for numbers in (quotient, rest):
            self.assertFalse(numbers and numbers[-1] == (0, 1))


class TurningTest(Growing):

    def check_between(self, kind, one, two):
        told = self.quick(turning_between, kind, one, two)
        self.check_way(told, one, two, 1000)
        self.assertLessEqual(len(told), 2000)
        self.assertTrue(told.kind == kind)
        return told

    def test_seven_trees_in_one(self):
        kind = tip_fork()
        told = self.check_between(kind, (7,), (1,))
        self.check_things(told, 9)
        self.check_things(self.check_between(kind, (1,), (7,)), 9)
        self.assertTrue(turning_between(two=(1,), one=(7,), kind=kind) == told)

    def test_alike_racks_of_all_kinds(self):
        for kind in more_kinds():
            for one, two, _ in alike_pairs(kind, 40, 5):
                self.check_between(kind, one, two)
                self.check_between(kind, two, one)

    def test_weight_twelve(self):
        for kind in more_kinds():
            for numbers in ([12], [-12], [0, 12], [0, -12], [0, 0, 4, 0, -8], [1, -1] * 4, [0] * 8 + [2], [-6, 0, 6]):
                one, two = racks_of(kind, numbers, (1,))
                if max(len(one), len(two)) <= 40:
                    self.check_between(kind, one, two)

    def test_forty_forms_of_twelve_trees(self):
        kind = tip_fork()
        self.check_between(kind, (12,) * 40, (12,) * 40)
        self.check_between(kind, (12, 0) * 20, (0, 12) * 20)
        self.check_between(kind, (12,) * 37 + (6,) * 3, (12,) * 40)
        self.check_between(kind, (12,) * 40, (12,) * 37 + (6,) * 3)
        self.check_between(kind, (6,) + (0,) * 39, (12,) + (0,) * 39)

    def test_the_same_forms_in_another_order(self):
        for kind in more_kinds():
            for one, two in (((), ()), ((0,), (0,)), ((0, 0), (0, 0)), ((1, 2, 0), (0, 1, 2)),
                             ((12, 3) * 20, (3, 12) * 20)):
                self.check_between(kind, one, two)

    def test_things_there_and_back(self):
        for makers in (TIP_FORK, LINES, FIVE, TWOS):
            kind = Kind(list(makers))
            for one, two, _ in alike_pairs(kind, 12, 6):
                self.check_things(turning_between(kind, one, two), 2)

    def test_great_things(self):
        kind = tip_fork()
        told = turning_between(kind, (12,), (6,))
        tree = (1,) * 49 + (0,) * 50
        thing = (0, tree * 12)
        led = self.quick(told.run, thing)
        self.tells(thing, self.quick(told.back, led))

    def test_not_alike_with_its_paper(self):
        kind = tip_fork()
        for one, two in (((2,), (1,)), ((0, 0), (2, 0)), ((2, 0), (0, 0)), ((12,) * 40, (1,)), ((), (0,))):
            with self.assertRaises(NotAlike) as caught:
                turning_between(kind, one, two)
            self.assertIs(NotAlike, caught.exception.__class__)
            self.tells(parting_paper(kind, one, two), caught.exception.paper)
            self.refused_both(NotAlike, turning_between, kind=kind, one=one, two=two)

    def test_too_long_with_its_weight(self):
        for kind in more_kinds():
            for numbers in ([13], [-13], [7, -6], [0, 13], [0, 6, 0, -7], [0, 0, 2, 20]):
                one, two = racks_of(kind, numbers, (1,))
                if max(len(one), len(two)) <= 40:
                    with self.assertRaises(TooLong) as caught:
                        turning_between(kind, one, two)
                    self.assertIs(TooLong, caught.exception.__class__)
                    self.tells(sum([abs(number) for number in numbers]), caught.exception.weight)
                    self.refused_both(TooLong, turning_between, kind=kind, one=one, two=two)

    def test_not_alike_ahead_of_too_long(self):
        kind = tip_fork()
        one, two = racks_of(kind, [0, 13], (1,))
        self.refused(TooLong, turning_between, kind, one, two)
        self.refused(NotAlike, turning_between, kind, one + (0,), two)
        # Both without trees: a quotient of great weight, but nothing to open.
        self.refused(NotAlike, turning_between, kind, (0, 3) * 20, ())


class VerdictTest(Checks):

    def test_examples(self):
        kind = tip_fork()
        self.tells_both(("parted", ("rest", ((1, 1),), ((-1, 1),))), verdict_of, kind=kind, one=(2,), two=(1,))
        self.tells(("parted", ("fixed", "first")), verdict_of(kind, (0, 0), (2, 0)))
        self.tells(("parted", ("fixed", "second")), verdict_of(kind, (2, 0), (0, 0)))
        self.tells(("alike", []), verdict_of(kind, (0, 0), (0, 0)))
        word, steps = verdict_of(kind, (7,), (1,))
        self.tells("alike", word)
        self.tells((1,), Turning(kind, (7,), steps).end)

    def test_long(self):
        kind = tip_fork()
        for number in (13, -13, 20):
            one, two = racks_of(kind, [0, number], (1,))
            self.tells_both(("long", abs(number)), verdict_of, kind=kind, one=one, two=two)
        one, two = racks_of(kind, [0, 12], (1,))
        self.tells("alike", verdict_of(kind, one, two)[0])

    def test_as_the_other_functions_tell(self):
        for makers in MORE_MAKERS:
            kind = Kind(list(makers))
            racks = small_racks(2, 4)
            for one in racks:
                for two in racks:
                    verdict = verdict_of(kind, one, two)
                    paper = parting_paper(kind, one, two)
                    self.tells(paper is None, are_alike(kind, one, two))
                    if paper is not None:
                        self.tells(("parted", paper), verdict)
                    else:
                        self.tells("alike", verdict[0])
                        self.tells(two, Turning(kind, one, verdict[1]).end)

    def test_a_new_list_each_time(self):
        kind = tip_fork()
        first = verdict_of(kind, (1,), (0, 2))
        told = list(first[1])
        first[1].clear()
        self.tells(("alike", told), verdict_of(kind, (1,), (0, 2)))

    def test_the_same_whatever_is_asked_of_another_kind_between(self):
        kind, other = tip_fork(), Kind(list(LINES))
        asked = [verdict_of(kind, (7,), (1,)), grown_by(kind, (2,), [1]).steps(), nought_of(kind)]
        verdict_of(other, (7,), (1,))
        grown_by(other, (2,), [1])
        nought_of(other)
        self.tells(asked, [verdict_of(kind, (7,), (1,)), grown_by(kind, (2,), [1]).steps(), nought_of(kind)])


if __name__ == "__main__":
    unittest.main()
