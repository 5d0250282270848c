"""[39]: the judge, the faults in their order, and [3]: what it lets by is true."""

import unittest
from random import Random

from boughswap.decide import are_alike, parting_paper, turning_between, verdict_of
from boughswap.errors import NoRack
from boughswap.judge import fault_of
from boughswap.kinds import Kind
from helping import LINES, TIP_FORK, Checks, Sulky, no_racks, no_wholes, tip_fork
from some_racks import alike_pairs, more_kinds, shuffled

TWOS = [("a", 0), ("b", 0), ("c", 1), ("d", 2), ("e", 2)]
ONE = (1, 1)
PAPER = ("rest", (ONE,), ((-1, 1),))


class GoodTest(Checks):

    def test_verdicts_told(self):
        for kind in more_kinds():
            for one, two, _ in alike_pairs(kind, 15, 8):
                for left, right in ((one, two), (two, one), (one, two + (0,)), (one + (2,), two), ((0, 0), two)):
                    verdict = verdict_of(kind, left, right)
                    if verdict[0] == "long":
                        self.tells(("form",), fault_of(kind, left, right, verdict))
                    else:
                        self.tells_both(None, fault_of, kind=kind, one=left, two=right, verdict=verdict)

    def test_examples(self):
        kind = tip_fork()
        self.tells_both(None, fault_of, kind=kind, one=(2,), two=(1,), verdict=("parted", PAPER))
        self.tells(None, fault_of(kind, (0, 0), (2, 0), ("parted", ("fixed", "first"))))
        self.tells(None, fault_of(kind, (2, 0), (0, 0), ("parted", ("fixed", "second"))))
        self.tells(None, fault_of(kind, (1,), (0, 2), ("alike", [("open", 0, 0)])))
        self.tells(None, fault_of(kind, (3, 3), (3, 3), ("alike", [])))
        self.tells(None, fault_of(kind, (), (), ("alike", [])))
        self.tells(None, fault_of(kind, (), (), ("alike", [("order", ())])))

    def test_fixed_of_either_rack(self):
        kind = tip_fork()
        # Both are without trees: either word shows it.
        for word in ("first", "second"):
            self.tells(None, fault_of(kind, (0, 0), (0,), ("parted", ("fixed", word))))
            self.tells(None, fault_of(kind, (), (0,), ("parted", ("fixed", word))))

    def test_another_paper_than_the_one_told(self):
        # Any quotient with a short rest does; of two without trees also the rest.
        self.tells(None, fault_of(tip_fork(), (0, 0), (0,), ("parted", ("rest", (), (ONE,)))))
        self.tells(None, fault_of(tip_fork(), (2, 0), (0, 0), ("parted", ("rest", (ONE,), ((-2, 1), ONE)))))
        kind = Kind(list(TWOS))
        self.tells(None, fault_of(kind, (0, 2, 1), (1,), ("parted", ("rest", ((1, 2),), ()))))

    def test_what_is_handed_in_stays(self):
        kind = tip_fork()
        steps = [("open", 0, 0), ("order", (1, 0))]
        verdict = ("alike", steps)
        self.tells(None, fault_of(kind, (1,), (2, 0), verdict))
        self.tells([("open", 0, 0), ("order", (1, 0))], steps)
        steps.append(None)
        self.tells(("step", 2), fault_of(kind, (1,), (2, 0), verdict))

    def test_no_rack_first(self):
        for rack in no_racks():
            for verdict in (None, ("alike", []), Sulky()):
                self.refused_both(NoRack, fault_of, kind=tip_fork(), one=rack, two=(1,), verdict=verdict)
                self.refused_both(NoRack, fault_of, kind=tip_fork(), one=(1,), two=rack, verdict=verdict)


class FormTest(Checks):

    def has_no_form(self, verdict):
        # Racks for which each sort of verdict would have another fault.
        for one, two in (((1,), (1,)), ((2,), (1,)), ((0,), (0, 0))):
            with self.subTest(repr(verdict)):
                self.tells(("form",), fault_of(tip_fork(), one, two, verdict))

    def test_no_tuple_of_two(self):
        for verdict in no_wholes() + [
            0, "alike", ["alike", []], ("alike",), ("alike", [], []), ("parted",), ("parted", PAPER, 0),
            ("parted", "fixed", "first"), ("parted", "rest", (), ()), [("alike", [])], {"alike": []},
        ]:
            self.has_no_form(verdict)

    def test_another_word(self):
        for word in ("", "Alike", "alike ", "part", "long", "rest", "fixed", "first", b"alike", None, 0, True,
                     ("alike",), Sulky()):
            self.has_no_form((word, []))
            self.has_no_form((word, PAPER))
            self.has_no_form((word, ("fixed", "first")))
        self.has_no_form(("long", 13))
        self.has_no_form(("long", 0))

    def test_steps_that_are_no_list(self):
        for steps in [thing for thing in no_wholes() if not isinstance(thing, list)] + [
            (("open", 0, 0),), "open 0 0", iter([]), PAPER, ("fixed", "first"),
        ]:
            self.has_no_form(("alike", steps))

    def test_no_paper(self):
        for paper in no_wholes() + [
            0, "fixed", ("fixed",), ("fixed", "third"), ("fixed", ""), ("fixed", "First"), ("fixed", 1),
            ("fixed", None), ("fixed", ("first",)), ("fixed", Sulky()), ("fixed", "first", "second"),
            ["fixed", "first"], ("first", "fixed"), ("first",), ("rest",), ("rest", ()), ("rest", (), (), ()),
            ["rest", (), ()],
            ("fixed", (), ()), ("sum", (), ()), ("quotient", (ONE,), ()), (None, (), ()), (Sulky(), (), ()),
            (Sulky(), "first"), (b"rest", (), ()), ("", ()), [],
        ]:
            self.has_no_form(("parted", paper))

    def test_no_fractions(self):
        odd = [thing for thing in no_wholes() if not isinstance(thing, tuple)] + [
            0, (7,), [ONE], [], (1,), (ONE, 1), ([1, 1],), ((1,),), ((1, 1, 1),), ((2, 2),), ((2, 4), ONE), ((1, 0),),
            ((1, -1),), ((-1, -2),), ((0, 2), ONE), ((0, 1),), (ONE, (0, 1)), ((True, 1),), ((1, True),), ((1.0, 1),),
            (("1", 1),), ((None, 1),), (None,), (Sulky(),), ((Sulky(), 1),), ((1, 2), (3, 6)), ((0, 1), (0, 1)),
        ]
        for numbers in odd:
            self.has_no_form(("parted", ("rest", numbers, ())))
            self.has_no_form(("parted", ("rest", (), numbers)))
            self.has_no_form(("parted", ("rest", (ONE,), numbers)))

    def test_nought_may_stand_within(self):
        kind = tip_fork()
        verdict = ("parted", ("rest", ((0, 1), ONE), ((0, 1), ONE)))
        self.tells(("sum", 1), fault_of(kind, (1,), (1,), verdict))


class StepsTest(Checks):

    def test_the_first_bad_step(self):
        kind = tip_fork()
        good = [("open", 0, 0), ("open", 1, 1), ("order", (2, 0, 1))]
        bad = [None, (), "open 0 0", ("open", 0, 3), ("open", 9, 0), ("close", 2, 0), ("order", (1,)), ["open", 0, 0],
               ("open", True, 0), 0, ("open", 0), [], Sulky(), ("shut", 0, 0)]
        for at in range(4):
            for step in bad:
                for two in ((3, 0, 1), (1,)):
                    self.tells(("step", at), fault_of(kind, (1,), two, ("alike", good[:at] + [step] + good[at:])))
                    self.tells(("step", at), fault_of(kind, (1,), two, ("alike", good[:at] + [step, None])))
        self.tells(None, fault_of(kind, (1,), (3, 0, 1), ("alike", good)))

    def test_a_rack_on_the_way_that_is_none(self):
        kind = tip_fork()
        there_and_back = [("open", 0, 0), ("close", 0, 0)]
        for rack in ((200,), (1,) + (0,) * 3999):
            self.tells(("step", 0), fault_of(kind, rack, rack, ("alike", there_and_back)))
        self.tells(None, fault_of(kind, (199,), (199,), ("alike", there_and_back)))
        self.tells(("step", 1), fault_of(kind, (199,), (199,), ("alike", [("open", 0, 0), ("open", 1, 0)])))

    def test_the_end_at_the_first_place(self):
        kind = tip_fork()
        for two, place in (((0, 1), 1), ((1, 2), 0), ((0, 0), 1), ((0,), 1), ((), 0), ((0, 2, 1), 2), ((0, 2, 0), 2),
                           ((1,), 0), ((2, 0), 0), ((0, 1, 2), 1)):
            self.tells(("end", place), fault_of(kind, (1,), two, ("alike", [("open", 0, 0)])))
        self.tells(("end", 0), fault_of(kind, (), (0,), ("alike", [])))
        self.tells(("end", 0), fault_of(kind, (0,), (), ("alike", [])))
        # The same forms in another order are another rack.
        self.tells(("end", 0), fault_of(kind, (0, 1), (1, 0), ("alike", [])))
        # A step that can't be done comes ahead of the end.
        self.tells(("step", 0), fault_of(kind, (1,), (2,), ("alike", [("open", 1, 0)])))

    def test_steps_left_out_put_in_and_exchanged(self):
        kind = tip_fork()
        steps = turning_between(kind, (7,), (1,)).steps()
        for at in range(len(steps)):
            for other in (steps[:at] + steps[at + 1:], steps[:at] + [steps[at]] + steps[at:], steps[:at]):
                fault = fault_of(kind, (7,), (1,), ("alike", other))
                self.assertIn(fault[0] if fault else None, ("step", "end", None))
                if fault is not None and fault[0] == "step":
                    self.assertGreaterEqual(fault[1], at)


class FixedTest(Checks):

    def test_the_rack_of_that_word_has_trees(self):
        kind = tip_fork()
        for word, one, two in (("first", (1,), (0,)), ("second", (0,), (1,)), ("first", (0, 2), (0,)),
                               ("second", (), (0, 1)), ("first", (1,), (1,)), ("second", (2, 1), (1, 2)),
                               ("first", (1,), (2,))):
            self.tells(("trees",), fault_of(kind, one, two, ("parted", ("fixed", word))))

    def test_both_have_the_same_forms(self):
        kind = tip_fork()
        for word in ("first", "second"):
            for rack in ((), (0,), (0, 0, 0)):
                self.tells(("same",), fault_of(kind, rack, rack, ("parted", ("fixed", word))))


class RestTest(Checks):

    def test_the_sum_at_the_least_power(self):
        kind = tip_fork()
        # 1 times the gap, and -1 left.
        for quotient, rest, power in (
            ((ONE,), (), 0), ((ONE,), ((-1, 2),), 0), ((ONE,), ((-1, 1), ONE), 1), (((2, 1),), ((-2, 1), (1, 1)), 2),
            (((0, 1), ONE), ((-1, 1), (-1, 1)), 0), ((), ((0, 1), (-1, 1)), 2), ((), (), 1),
            ((), ((0, 1), (-1, 1), (2, 1)), 2),
            ((ONE, ONE), ((-1, 1), (-1, 1), ONE), 3), ((ONE,), ((-1, 1), (0, 1), (0, 1), ONE), 3),
            ((ONE, (0, 1), (0, 1), ONE), ((-1, 1),), 3), (((1, 2),), ((-1, 2), (-1, 2)), 2),
        ):
            verdict = ("parted", ("rest", quotient, rest))
            self.tells(("sum", power), fault_of(kind, (2,), (1,), verdict))

    def test_over_to_other_racks(self):
        kind = tip_fork()
        self.tells(("sum", 2), fault_of(kind, (1, 1), (1, 1), ("parted", ("rest", (ONE,), ((-1, 1), ONE)))))
        self.tells(("sum", 1), fault_of(kind, (1,), (2,), ("parted", PAPER)))
        self.tells(("sum", 0), fault_of(kind, (2, 0), (1,), ("parted", PAPER)))
        self.tells(("sum", 7), fault_of(kind, (7, 2), (1,), ("parted", PAPER)))
        self.tells(("sum", 1), fault_of(Kind(list(LINES)), (2,), (1,), ("parted", PAPER)))
        # The same forms put beside both change nothing.
        self.tells(None, fault_of(kind, (5, 2, 0), (1, 0, 5), ("parted", PAPER)))

    def test_the_rest_is_not_shorter(self):
        kind = tip_fork()
        self.tells(("long",), fault_of(kind, (2,), (1,), ("parted", ("rest", (), ((0, 1), (-1, 1), ONE)))))
        self.tells(("long",), fault_of(kind, (7,), (1,), ("parted", (
            "rest", (), ((0, 1), (-1, 1), (0, 1), (0, 1), (0, 1), (0, 1), (0, 1), ONE)))))
        # As long as the gap: a rest that the gap divides.
        self.tells(("long",), fault_of(kind, (0, 2), (1,), ("parted", ("rest", (), (ONE, (-1, 1), ONE)))))
        self.tells(None, fault_of(kind, (2,), (1,), ("parted", PAPER)))
        # Of another kind the same rest is short enough.
        five = Kind([("tip", 0), ("fork", 3)])
        self.tells(None, fault_of(five, (2,), (1,), ("parted", ("rest", (), ((0, 1), (-1, 1), ONE)))))

    def test_no_rest_and_a_whole_quotient(self):
        kind = tip_fork()
        self.tells(("whole",), fault_of(kind, (0, 2), (1,), ("parted", ("rest", (ONE,), ()))))
        self.tells(("whole",), fault_of(kind, (1,), (1,), ("parted", ("rest", (), ()))))
        self.tells(("whole",), fault_of(kind, (), (), ("parted", ("rest", (), ()))))
        self.tells(("whole",), fault_of(kind, (7,), (1,), ("parted", (
            "rest", ((0, 1), (-1, 1), (-1, 1), (0, 1), ONE, ONE), ()))))
        twos = Kind(list(TWOS))
        self.tells(None, fault_of(twos, (7,), (7, 1, 1, 1, 3, 3, 3), ("parted", ("rest", ((0, 1), (-3, 2)), ()))))
        self.tells(("whole",), fault_of(twos, (7,), (7, 1, 1, 3, 3), ("parted", ("rest", ((0, 1), (-1, 1)), ()))))

    def test_the_sum_ahead_of_long_and_whole(self):
        kind = tip_fork()
        self.tells(("sum", 0), fault_of(kind, (2,), (1,), ("parted", ("rest", (), (ONE, (-1, 1), ONE)))))
        self.tells(("sum", 1), fault_of(kind, (2,), (1,), ("parted", ("rest", (), ()))))

    def test_long_papers(self):
        kind = tip_fork()
        great = 10 ** 59 + 7
        long = tuple([(great + at, 3 * great + 3 * at + 1) for at in range(201)])
        self.tells(("sum", 0), self.quick(fault_of, kind, (2,), (1,), ("parted", ("rest", long, long))))
        noughts = ((0, 1),) * 200
        self.tells(("sum", 1), self.quick(fault_of, kind, (2,), (1,), ("parted", ("rest", noughts + (ONE,), ()))))

    def test_wide_racks(self):
        kind = Kind([("a", 0), ("b", 4), ("c", 4), ("d", 4), ("e", 4)])
        one, two = (200,) * 4000, tuple(range(200)) * 20
        verdict = self.quick(verdict_of, kind, one, two)
        self.tells(None, self.quick(fault_of, kind, one, two, verdict))
        word, (rest, quotient, left) = verdict
        top, bottom = quotient[100]
        other = quotient[:100] + ((top + bottom, bottom),) + quotient[101:]
        self.tells(("sum", 100), fault_of(kind, one, two, (word, (rest, other, left))))


class TrueTest(Checks):

    def test_what_is_let_by_is_true(self):
        chance = Random(9)
        for kind in more_kinds():
            pairs = alike_pairs(kind, 12, 10)
            papers = [("fixed", "first"), ("fixed", "second"), ("rest", (), ())]
            steps = [[]]
            for one, two, _ in pairs:
                steps.append(turning_between(kind, one, two).steps())
                other = shuffled(chance, two)
                papers.append(parting_paper(kind, one, other[1:]) or ("fixed", "first"))
            racks = [rack for one, two, _ in pairs[:4] for rack in (one, two, two[1:], (0,) * len(two))]
            for one in racks:
                for two in racks:
                    self.check_true(kind, one, two, steps, papers)

    def check_true(self, kind, one, two, steps, papers):
        alike = are_alike(kind, one, two)
        for row in steps:
            if fault_of(kind, one, two, ("alike", row)) is None:
                self.tells(True, alike)
        for paper in papers:
            if fault_of(kind, one, two, ("parted", paper)) is None:
                self.tells(False, alike)


if __name__ == "__main__":
    unittest.main()
