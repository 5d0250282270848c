"""[31] to [34]: noughts, racks grown by them, contraries, and forms that are reached."""

import unittest
from random import Random

from boughswap.errors import NoNumber, NoRack, NoTrees, TooMuch
from boughswap.kinds import Kind
from boughswap.noughts import contrary_of, grown_by, grown_from_one, nought_of, reach_to, undoing_of
from boughswap.racks import put_beside, rack_poly
from growing import Growing
from helping import FIVE, FORK_TIP, LINES, TIP_FORK, Checks, Sulky, no_racks, no_wholes, tip_fork
from some_racks import more_kinds, times_gap


class NoughtTest(Checks):

    def test_examples(self):
        self.tells_both((0, 3), nought_of, kind=tip_fork())
        self.tells_both((3,), undoing_of, kind=tip_fork())
        self.tells((0, 3), nought_of(Kind(list(FORK_TIP))))
        # line 1, tri 3, dot 0: 1 and 0 of the makers but tri; 1 and 2 more than 1 and 3.
        self.tells((0, 1, 2, 3, 4, 5), nought_of(Kind(list(LINES))))
        self.tells((1, 2, 3, 4, 5), undoing_of(Kind(list(LINES))))
        # quad 4, oak 0, ash 0, pair 2: all but quad; all but oak with 1, 2 and 3 more.
        self.tells((0, 0, 1, 2, 2, 3, 3, 4, 5, 5, 6, 7),
                   nought_of(Kind([("quad", 4), ("oak", 0), ("ash", 0), ("pair", 2)])))
        # The first wide maker has two trees: each maker but the first leaf with 1 more.
        self.tells((0, 0, 1, 3, 4, 5), nought_of(Kind([("pair", 2), ("oak", 0), ("ash", 0), ("quad", 4)])))
        self.tells((0, 1, 2, 3, 3, 4, 4, 5), nought_of(Kind(list(FIVE))))

    def test_rising_and_without_one_form_of_no_trees(self):
        for kind in more_kinds():
            nought = nought_of(kind)
            self.tells(tuple(sorted(nought)), nought)
            self.tells(0, nought[0])
            self.tells(nought[1:], undoing_of(kind))

    def test_the_polynomial(self):
        for kind in more_kinds():
            ones = [1] * kind.within(kind.first_wide())
            numbers = times_gap(kind, ones)
            told = rack_poly(nought_of(kind))
            self.tells(numbers[:len(told)], list(told))
            self.assertFalse(any(numbers[len(told):]))


class GrownTest(Growing):

    def test_grown_from_one(self):
        for kind in more_kinds():
            turning = grown_from_one(kind=kind)
            self.check_way(turning, (1,), (1,) + nought_of(kind))
            self.assertTrue(turning.kind == kind)
            self.check_things(turning, 4)
            self.assertTrue(grown_from_one(kind) == turning)

    def end_of(self, kind, rack, more):
        return rack + tuple([form + number for number in more for form in nought_of(kind)])

    def test_form_by_form(self):
        kind = tip_fork()
        told = grown_by(kind, (2, 0), [3, 1, 3])
        self.tells((2, 0, 3, 6, 1, 4, 3, 6), told.end)
        self.tells_both(True, lambda kind, rack, more: grown_by(kind=kind, rack=rack, more=more) == told,
                        kind=kind, rack=(2, 0), more=[3, 1, 3])
        self.assertTrue(grown_by(more=[3, 1, 3], rack=(2, 0), kind=kind) == told)

    def test_no_numbers(self):
        for rack in ((1,), (0, 7), (40,) * 40):
            self.check_way(grown_by(tip_fork(), rack, []), rack, rack)

    def test_each_number_from_each_form(self):
        for makers in (TIP_FORK, LINES, [("a", 4), ("b", 0)]):
            kind = Kind(list(makers))
            for form in (1, 2, 3, 7, 40):
                for number in (0, 1, 2, 5, 39, 40):
                    self.check_way(grown_by(kind, (0, form), [number]), (0, form),
                                   self.end_of(kind, (0, form), [number]))

    def test_lists_and_racks_of_all_lengths(self):
        chance = Random(7)
        for kind in more_kinds():
            for many in (1, 2, 7, 40):
                for length in (1, 3, 20, 60):
                    rack = tuple([chance.randrange(41) for _ in range(many - 1)]) + (chance.randrange(1, 41),)
                    more = [chance.randrange(41) for _ in range(length)]
                    told = self.quick(grown_by, kind, rack, more)
                    self.check_way(told, rack, self.end_of(kind, rack, more))

    def test_the_bounds_of_numbers_and_forms(self):
        for kind in more_kinds():
            for rack in ((1,), (40,) * 40, (0,) * 39 + (1,)):
                for more in ([40] * 60, [40, 0] * 30):
                    told = self.quick(grown_by, kind, rack, more)
                    self.check_way(told, rack, self.end_of(kind, rack, more))

    def test_things_there_and_back(self):
        for kind in more_kinds():
            for rack, more in (((2,), [0, 1]), ((0, 1), [2]), ((3, 1), [1, 0])):
                self.check_things(grown_by(kind, rack, more), 3)

    def test_the_list_stays_and_its_changes_change_nothing(self):
        more = [2, 0]
        told = grown_by(tip_fork(), (1,), more)
        self.tells([2, 0], more)
        more.append(7)
        more[0] = None
        self.tells((1, 2, 5, 0, 3), told.end)

    def test_no_rack_first(self):
        for rack in no_racks():
            self.refused_both(NoRack, grown_by, kind=tip_fork(), rack=rack, more=None)

    def test_no_numbers_ahead_of_no_trees(self):
        odd = [thing for thing in no_wholes() if not isinstance(thing, list)] + [
            0, (), (0,), (1, 2), [-1], [41], [0, 41], [-1, 0], [True], [False, 1], [None], ["1"], [1.0], [[1]], [(1,)],
            [0] * 61, [40] * 100, [Sulky()], {0}, {0: 1}, range(3), "01", b"01",
        ]
        for more in odd:
            for rack in ((1,), (), (0, 0)):
                with self.subTest(repr(more)):
                    self.refused_both(NoNumber, grown_by, kind=tip_fork(), rack=rack, more=more)

    def test_no_trees(self):
        for rack in ((), (0,), (0,) * 40):
            for more in ([], [0], [40] * 60):
                self.refused_both(NoTrees, grown_by, kind=tip_fork(), rack=rack, more=more)


class ContraryTest(Checks):

    def test_each_form_moved_up(self):
        self.tells_both((3, 4, 4, 8), contrary_of, kind=tip_fork(), rack=(1, 0, 5, 1))
        self.tells((1, 2, 3, 3, 4, 4, 5, 5, 6, 7), contrary_of(Kind(list(LINES)), (2, 0)))
        self.tells((), contrary_of(tip_fork(), ()))
        self.tells((3, 3), contrary_of(tip_fork(), (0, 0)))

    def test_beside_the_rack_it_is_noughts(self):
        chance = Random(3)
        for kind in more_kinds():
            for many in (0, 1, 2, 9, 40):
                rack = tuple([chance.randrange(30) for _ in range(many)])
                contrary = contrary_of(kind, rack)
                self.tells(tuple(sorted(contrary)), contrary)
                noughts = [form + trees for form in rack for trees in nought_of(kind)]
                self.tells(sorted(noughts), sorted(put_beside(rack, contrary)))

    def test_no_rack_and_too_much(self):
        for rack in no_racks():
            self.refused_both(NoRack, contrary_of, kind=tip_fork(), rack=rack)
        kind = tip_fork()
        self.tells((3,) * 4000, contrary_of(kind, (0,) * 4000))
        self.tells((200,), contrary_of(kind, (197,)))
        self.refused_both(TooMuch, contrary_of, kind=kind, rack=(198,))
        self.refused(TooMuch, contrary_of, kind, (0, 198, 0))
        lines = Kind(list(LINES))
        self.tells(4000, len(contrary_of(lines, (0,) * 800)))
        self.refused(TooMuch, contrary_of, lines, (0,) * 801)
        self.tells((196, 197, 198, 199, 200), contrary_of(lines, (195,)))
        self.refused(TooMuch, contrary_of, lines, (196,))


class ReachTest(Growing):

    def check_reached(self, kind, rack, many):
        told = self.quick(reach_to, kind, rack, many)
        self.check_way(told, rack, told.end)
        self.tells(many, told.end[-1])
        return told

    def test_all_heights(self):
        for kind in more_kinds():
            for rack in ((1,), (2, 0), (40,), (0, 3, 17)):
                for many in range(1, 61):
                    self.check_reached(kind, rack, many)

    def test_many_forms(self):
        chance = Random(5)
        for kind in more_kinds():
            for rack in ((1,) * 40, (40,) * 40, (0,) * 39 + (1,), (40,) + (0,) * 39,
                         tuple([chance.randrange(41) for _ in range(40)])):
                for many in (1, 2, 30, 59, 60):
                    self.check_reached(kind, rack, many)

    def test_by_names(self):
        told = reach_to(tip_fork(), (3, 0), 5)
        self.assertTrue(reach_to(many=5, rack=(3, 0), kind=tip_fork()) == told)
        self.tells(5, told.end[-1])

    def test_things_there_and_back(self):
        for kind in more_kinds():
            for rack, many in (((1,), 3), ((3, 0), 1), ((0, 2, 0), 2)):
                self.check_things(reach_to(kind, rack, many), 3)

    def test_refused_in_order(self):
        kind = tip_fork()
        for rack in no_racks():
            self.refused_both(NoRack, reach_to, kind=kind, rack=rack, many=None)
        for many in no_wholes() + [0, 61, -1, -7, 10 ** 60]:
            for rack in ((1,), (), (0, 0)):
                self.refused_both(NoNumber, reach_to, kind=kind, rack=rack, many=many)
        for rack in ((), (0,), (0,) * 40):
            for many in (1, 60):
                self.refused_both(NoTrees, reach_to, kind=kind, rack=rack, many=many)


if __name__ == "__main__":
    unittest.main()
