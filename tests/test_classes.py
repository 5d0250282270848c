"""[40] to [42]: racks with trees as numbers: one, what is wanting, powers, what comes again; things up to a size."""

import unittest

from boughswap.classes import comes_again, count_to, power_of, unit_of, wanting
from boughswap.decide import are_alike, quotient_of
from boughswap.errors import NoNumber, NoRack, NoTrees, TooMuch
from boughswap.kinds import Kind
from boughswap.lists import how_many_things
from boughswap.noughts import contrary_of, nought_of
from boughswap.racks import put_beside, put_times
from helping import ALL_MAKERS, FIVE, LINES, TIP_FORK, Checks, Forest, no_racks, no_wholes, tip_fork
from some_racks import more_kinds

SOME_RACKS = [(1,), (0, 2), (3, 1, 1), (5,), (0, 0, 4)]
# Without trees, or with none but forms of them.
NO_TREES = [(), (0,), (0, 0, 0)]


class UnitTest(Checks):

    def test_told(self):
        self.tells_both((0, 0, 3), unit_of, kind=tip_fork())
        for kind in more_kinds():
            self.tells((0,) + nought_of(kind), unit_of(kind))

    def test_multiplied_with_it_a_rack_stays_alike(self):
        for kind in more_kinds():
            unit = unit_of(kind)
            for rack in SOME_RACKS + [unit]:
                self.tells(True, are_alike(kind, put_times(unit, rack), rack))
                self.tells(True, are_alike(kind, put_times(rack, unit), rack))
            for rack in NO_TREES[1:]:
                self.tells(False, are_alike(kind, put_times(unit, rack), rack))


class WantingTest(Checks):

    def test_told(self):
        self.tells_both((2, 4, 5), wanting, kind=tip_fork(), one=(1, 2), two=(2,))
        self.tells((1, 3), wanting(tip_fork(), (0,), (1,)))
        self.tells((0, 1, 5), wanting(tip_fork(), (), (5, 0, 1)))

    def test_beside_the_first_alike_to_the_second(self):
        for kind in more_kinds():
            for one in SOME_RACKS + NO_TREES:
                for two in SOME_RACKS:
                    told = wanting(kind, one, two)
                    self.tells(tuple(sorted(told)), told)
                    self.tells(sorted(two + contrary_of(kind, one)), list(told))
                    self.tells(True, are_alike(kind, put_beside(one, told), two))

    def test_refused_in_order(self):
        kind = tip_fork()
        for rack in no_racks():
            self.refused_both(NoRack, wanting, kind=kind, one=rack, two=None)
            self.refused_both(NoRack, wanting, kind=kind, one=(200,), two=rack)
        for two in NO_TREES:
            for one in ((1,), (), (200,), (0,) * 4000):
                self.refused_both(NoTrees, wanting, kind=kind, one=one, two=two)
        self.refused_both(TooMuch, wanting, kind=kind, one=(198,), two=(1,))
        self.tells((1, 200), wanting(kind, (197,), (1,)))
        self.tells(4000, len(wanting(kind, (0,) * 3999, (1,))))
        self.refused(TooMuch, wanting, kind, (0,) * 4000, (1,))
        self.refused(TooMuch, wanting, kind, (0,) * 3999, (1, 0))
        lines = Kind(list(LINES))
        self.refused(TooMuch, wanting, lines, (0,) * 801, (1,))
        self.refused(TooMuch, wanting, lines, (0,) * 800, (1,))
        self.tells(3996, len(wanting(lines, (0,) * 799, (1,))))


class PowerTest(Checks):

    def test_one_by_one(self):
        for rack in SOME_RACKS + NO_TREES + [(0, 1), (1, 0), (2, 1)]:
            power = rack
            self.tells(rack, power_of(rack, 1))
            for many in range(2, 13):
                if len(power) * len(rack) <= 4000:
                    power = put_times(power, rack)
                    self.tells(power, power_of(rack, many))
                else:
                    self.refused(TooMuch, power_of, rack, many)

    def test_the_order_of_forms(self):
        self.tells_both((0, 3, 1, 3, 6, 4, 1, 4, 2), power_of, rack=(0, 3, 1), many=2)
        self.tells((6, 4, 5, 4, 2, 3, 5, 3, 4, 4, 2, 3, 2, 0, 1, 3, 1, 2, 5, 3, 4, 3, 1, 2, 4, 2, 3),
                   power_of((2, 0, 1), 3))

    def test_too_much(self):
        self.tells(3969, len(power_of((1,) * 63, 2)))
        self.refused_both(TooMuch, power_of, rack=(1,) * 64, many=2)
        self.tells(2048, len(power_of((0, 1), 11)))
        self.refused(TooMuch, power_of, (0, 1), 12)
        self.tells((192,), power_of((16,), 12))
        self.refused(TooMuch, power_of, (17,), 12)
        self.tells((187,), power_of((17,), 11))
        self.tells((200,), power_of((100,), 2))
        self.refused(TooMuch, power_of, (101,), 2)
        self.tells((200,) * 4000, power_of((200,) * 4000, 1))
        self.refused(TooMuch, self.quick, power_of, (0,) * 4000, 12)
        self.tells((), power_of((), 12))
        self.tells((0,), power_of((0,), 12))

    def test_refused_in_order(self):
        for rack in no_racks():
            self.refused_both(NoRack, power_of, rack=rack, many=None)
        for many in no_wholes() + [0, 13, -1, 10 ** 60]:
            self.refused_both(NoNumber, power_of, rack=(1,), many=many)
            self.refused_both(NoNumber, power_of, rack=(1,) * 4000, many=many)


class AgainTest(Checks):

    def test_seven_trees(self):
        kind = tip_fork()
        self.tells_both((1, 7), comes_again, kind=kind, most=7)
        self.tells((1, 7), comes_again(kind, 60))
        for most in range(2, 7):
            self.tells_both(None, comes_again, kind=kind, most=most)

    def test_against_all_pairs(self):
        for kind in more_kinds():
            told = self.quick(comes_again, kind, 60)
            for many in range(2, 16):
                pairs = [(i, j) for j in range(2, many + 1) for i in range(1, j)
                         if quotient_of(kind, (i,), (j,)) is not None]
                self.tells(pairs[0] if pairs else None, comes_again(kind, many))
                if pairs:
                    self.tells(pairs[0], told)

    def test_kinds_that_come_again_and_that_dont(self):
        # The gap of each is told behind it.
        for makers, told in (
            ([("a", 0), ("b", 1), ("c", 2)], (1, 5)),                        # 1 + x^2
            ([("a", 0), ("b", 1), ("c", 1), ("d", 2)], (1, 4)),              # 1 + x + x^2
            ([("a", 0), ("b", 1), ("c", 3)], (1, 7)),                        # 1 + x^3
            ([("a", 0), ("b", 1), ("c", 4)], (1, 9)),                        # 1 + x^4
            ([("a", 0), ("b", 1), ("c", 1), ("d", 2), ("e", 3)], (1, 5)),    # 1 + x + x^2 + x^3
            ([("a", 0), ("b", 2), ("c", 2)], None),                          # 1 - x + 2 x^2
            ([("a", 0), ("b", 0), ("c", 2)], None),                          # 2 - x + x^2
            ([("a", 0), ("b", 3)], None),                                    # 1 - x + x^3
            ([("a", 0), ("b", 0), ("c", 1), ("d", 2), ("e", 2)], None),      # 2 + 2 x^2
            ([("a", 0), ("b", 1), ("c", 1), ("d", 1), ("e", 2)], None),      # 1 + 2 x + x^2
        ):
            kind = Kind(makers)
            self.tells(told, comes_again(kind, 60))
            if told is not None:
                self.tells(told, comes_again(kind, told[1]))
                self.tells(None, comes_again(kind, max(told[1] - 1, 2)))

    def test_no_number(self):
        for most in no_wholes() + [0, 1, 61, -2, 10 ** 60]:
            self.refused_both(NoNumber, comes_again, kind=tip_fork(), most=most)


class CountTest(Checks):

    def test_against_all_sizes_up_to_it(self):
        for makers in (TIP_FORK, LINES, FIVE):
            kind = Kind(list(makers))
            for rack in [(), (0, 0), (3, 1, 1), (7, 0, 2, 60), (61,), (200, 1)]:
                total = 0
                for size in range(61):
                    total += how_many_things(kind, rack, size)
                    self.tells_both(total, count_to, kind=kind, rack=rack, size=size)

    def test_against_the_things_themselves(self):
        for makers in ALL_MAKERS:
            forest = Forest(makers)
            for rack in SOME_RACKS + NO_TREES:
                for size in range(6):
                    self.tells(len(forest.things_up_to(rack, size)), count_to(Kind(list(makers)), rack, size))

    def test_ends_of_sizes(self):
        kind = tip_fork()
        self.tells(2, count_to(kind, (0, 1, 0, 2), 0))
        self.tells(0, count_to(kind, (), 60))
        self.tells(4000, count_to(kind, (0,) * 4000, 60))
        # Of each odd size up to 59 the numbers of Catalan.
        numbers = [1]
        for at in range(29):
            numbers.append(numbers[-1] * 2 * (2 * at + 1) // (at + 2))
        self.tells(sum(numbers), count_to(kind, (1,), 60))
        self.tells(sum(numbers), count_to(kind, (1,), 59))

    def test_in_time(self):
        for makers in (TIP_FORK, LINES):
            kind = Kind(list(makers))
            for rack in ((60, 30, 1), (200,) * 4000, tuple(range(61)) * 60):
                self.quick(count_to, kind, rack, 60)

    def test_refused_in_order(self):
        for rack in no_racks():
            self.refused_both(NoRack, count_to, kind=tip_fork(), rack=rack, size=None)
        for size in no_wholes() + [-1, 61, 10 ** 60]:
            self.refused_both(NoNumber, count_to, kind=tip_fork(), rack=(1,), size=size)


if __name__ == "__main__":
    unittest.main()
