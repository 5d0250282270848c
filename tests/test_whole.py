"""[1] to [3]: what the whole program promises, put together over all stages."""

import unittest

from boughswap import errors
from boughswap.classes import comes_again, count_to, power_of, unit_of, wanting
from boughswap.counts import how_many, number_of, tree_at
from boughswap.decide import are_alike, parting_paper, quotient_of, turning_between, verdict_of
from boughswap.desk import Desk
from boughswap.errors import SwapError
from boughswap.judge import fault_of
from boughswap.kinds import Kind
from boughswap.lists import how_many_things, number_of_thing, thing_at
from boughswap.noughts import contrary_of, grown_by, grown_from_one, nought_of, reach_to, undoing_of
from boughswap.patterns import filled, holes_of, is_pattern, matched
from boughswap.polys import (
    added, divided, downs, is_poly, multiplied, poly, raised, taken_off, ups, weight_of, whole_quotient, worth_at,
)
from boughswap.racks import (
    has_trees, is_rack, is_thing, paired, put_beside, put_left, put_right, put_times, rack_poly, side_of, trees_of,
    unpaired,
)
from boughswap.ratios import fraction, is_fraction, minus, plus, shared, times
from boughswap.shapes import flat_of, flattened, folded, is_of, is_shape
from boughswap.steps import can_do, closes_of, led_back, led_to, opens_of, rack_after, undone
from boughswap.tables import are_same, by_table, parting_thing, table_of
from boughswap.texts import (
    kind_text, poly_text, rack_text, read_kind, read_poly, read_rack, read_step, read_steps, read_thing, read_tree,
    read_verdict, step_text, steps_text, thing_text, tree_text, verdict_text,
)
from boughswap.trees import deep_of, is_tree, leaf_tree, trees_in
from boughswap.turnings import Turning, join, trimmed, turn_beside, turn_spread
from boughswap.wholes import is_whole
from growing import Growing
from helping import LINES, Checks, Forest, Sulky, tip_fork
from some_racks import alike_pairs, more_kinds, racks_of

KIND = Kind([("tip", 0), ("fork", 2)])
TURNING = Turning(KIND, (1,), [("open", 0, 0)])
WAY_BACK = TURNING.turned()
PAPER = ("rest", ((1, 1),), ((-1, 1),))

# Each function of the interface, with arguments by names.
CALLS = [
    (is_whole, dict(thing=3, low=1, high=5)),
    (fraction, dict(top=2, bottom=-4)), (is_fraction, dict(thing=(1, 2))), (plus, dict(one=(1, 2), other=(1, 3))),
    (minus, dict(one=(1, 2), other=(1, 3))), (times, dict(one=(1, 2), other=(1, 3))),
    (shared, dict(one=(1, 2), other=(1, 3))),
    (is_poly, dict(thing=(1, 2))), (poly, dict(numbers=[1, 0])), (added, dict(one=(1, 2), other=(0, -2))),
    (taken_off, dict(one=(1, 2), other=(0, 2))), (multiplied, dict(one=(1, 2), other=(3,))),
    (raised, dict(one=(1, 2), many=2)), (worth_at, dict(one=(1, 2), x=5)), (ups, dict(one=(1, -2))),
    (downs, dict(one=(1, -2))), (weight_of, dict(one=(1, -2))), (divided, dict(one=(0, -1, 1), other=(1, -1, 1))),
    (whole_quotient, dict(one=(2, 4), other=(1, 2))),
    (KIND.name, dict(maker=1)), (KIND.within, dict(maker=1)), (KIND.number, dict(name="fork")),
    (is_tree, dict(kind=KIND, thing=(1, 0, 0))), (trees_in, dict(kind=KIND, row=(0, 1, 0, 0))),
    (deep_of, dict(kind=KIND, tree=(1, 0, 0))), (leaf_tree, dict(kind=KIND)),
    (how_many, dict(kind=KIND, size=7)), (tree_at, dict(kind=KIND, size=7, number=3)),
    (number_of, dict(kind=KIND, tree=(1, 0, 1, 0, 0))),
    (is_rack, dict(thing=(1, 0))), (rack_poly, dict(rack=(1, 3))), (has_trees, dict(rack=(0, 3))),
    (is_thing, dict(kind=KIND, rack=(0, 1), thing=(1, (0,)))),
    (trees_of, dict(kind=KIND, rack=(0, 1), thing=(1, (0,)))),
    (put_beside, dict(one=(1,), two=(2, 0))), (put_left, dict(kind=KIND, one=(1,), two=(2,), thing=(0, (0,)))),
    (put_right, dict(kind=KIND, one=(1,), two=(2,), thing=(0, (0, 0)))),
    (side_of, dict(kind=KIND, one=(1,), two=(2,), thing=(1, (0, 0)))), (put_times, dict(one=(1, 0), two=(2, 3))),
    (paired, dict(kind=KIND, one=(1,), two=(2,), thing=(0, (0,)), other=(0, (0, 0)))),
    (unpaired, dict(kind=KIND, one=(1,), two=(2,), thing=(0, (0, 0, 0)))),
    (how_many_things, dict(kind=KIND, rack=(1, 2), size=4)), (thing_at, dict(kind=KIND, rack=(1, 2), size=4, number=1)),
    (number_of_thing, dict(kind=KIND, rack=(1, 2), thing=(1, (0, 1, 0, 0)))),
    (is_shape, dict(thing=("both", "one", "tree"))), (is_of, dict(kind=KIND, shape="tree", thing=(0,))),
    (flat_of, dict(shape=("either", "one", "tree"))),
    (flattened, dict(kind=KIND, shape=("either", "one", "tree"), thing=("right", (0,)))),
    (folded, dict(kind=KIND, shape=("either", "one", "tree"), thing=(1, (0,)))),
    (can_do, dict(kind=KIND, rack=(1,), step=("open", 0, 0))),
    (rack_after, dict(kind=KIND, rack=(1,), step=("open", 0, 0))),
    (led_to, dict(kind=KIND, rack=(1,), step=("open", 0, 0), thing=(0, (1, 0, 0)))),
    (led_back, dict(kind=KIND, rack=(1,), step=("open", 0, 0), thing=(1, (0, 0)))),
    (undone, dict(kind=KIND, rack=(1,), step=("open", 0, 0))), (opens_of, dict(rack=(0, 2))),
    (closes_of, dict(kind=KIND, rack=(1, 3))),
    (TURNING.run, dict(thing=(0, (1, 0, 0)))), (TURNING.back, dict(thing=(1, (0, 0)))),
    (is_pattern, dict(kind=KIND, rack=(0, 2), thing=(1, (-1, 1, -1, 0)))),
    (holes_of, dict(pattern=(1, (-1, 1, -1, 0)))),
    (filled, dict(pattern=(1, (-1, 1, -1, 0)), trees=[(0,), (1, 0, 0)])),
    (matched, dict(kind=KIND, rack=(0, 2), pattern=(1, (-1, 0)), thing=(1, (1, 0, 0, 0)))),
    (table_of, dict(turning=TURNING)), (by_table, dict(kind=KIND, rows=table_of(TURNING), thing=(0, (1, 0, 0)))),
    (are_same, dict(one=TURNING, two=TURNING)), (parting_thing, dict(one=TURNING, two=TURNING)),
    (nought_of, dict(kind=KIND)), (undoing_of, dict(kind=KIND)), (contrary_of, dict(kind=KIND, rack=(1, 0))),
    (quotient_of, dict(kind=KIND, one=(7,), two=(1,))), (are_alike, dict(kind=KIND, one=(7,), two=(1,))),
    (parting_paper, dict(kind=KIND, one=(2,), two=(1,))), (verdict_of, dict(kind=KIND, one=(7,), two=(1,))),
    (fault_of, dict(kind=KIND, one=(2,), two=(1,), verdict=("parted", PAPER))),
    (unit_of, dict(kind=KIND)), (wanting, dict(kind=KIND, one=(1,), two=(2, 0))), (power_of, dict(rack=(1, 0), many=3)),
    (comes_again, dict(kind=KIND, most=9)), (count_to, dict(kind=KIND, rack=(1, 2), size=9)),
    (kind_text, dict(kind=KIND)), (tree_text, dict(kind=KIND, tree=(1, 0, 0))),
    (read_tree, dict(kind=KIND, text="fork(tip,tip)")), (rack_text, dict(rack=(1, 0))), (read_rack, dict(text="1 0")),
    (thing_text, dict(kind=KIND, rack=(1,), thing=(0, (0,)))), (read_thing, dict(kind=KIND, rack=(1,), text="0 tip")),
    (step_text, dict(step=("open", 0, 0))), (read_step, dict(text="open 0 0")),
    (steps_text, dict(steps=[("open", 0, 0)])), (read_steps, dict(text="open 0 0")), (poly_text, dict(one=(1, -1))),
    (read_poly, dict(text="1 -1")), (verdict_text, dict(verdict=("parted", PAPER))), (read_verdict, dict(text="alike")),
]

# Functions that tell kinds and turnings.
TOLD_ALIKE = [
    (Kind, dict(makers=[("tip", 0), ("fork", 2)])), (read_kind, dict(text="tip 0, fork 2")),
    (Turning, dict(kind=KIND, rack=(1,), steps=[("open", 0, 0)])), (join, dict(one=TURNING, two=WAY_BACK)),
    (turn_beside, dict(one=TURNING, two=WAY_BACK)), (turn_spread, dict(rack=(1, 0), turning=TURNING)),
    (trimmed, dict(turning=TURNING)), (grown_from_one, dict(kind=KIND)),
    (grown_by, dict(kind=KIND, rack=(1, 3), more=[2, 0])), (reach_to, dict(kind=KIND, rack=(1, 3), many=5)),
    (turning_between, dict(kind=KIND, one=(7,), two=(1,))),
]


def makers_text(kind):
    return ", ".join([name + " " + str(many) for name, many in kind.makers()])


class ArgumentsTest(Checks):

    def test_by_places_and_by_names_in_another_order(self):
        for call, named in CALLS:
            with self.subTest(call.__qualname__):
                told = call(*named.values())
                self.tells_both(told, call, **named)
        for call, named in TOLD_ALIKE:
            with self.subTest(call.__qualname__):
                told = call(*named.values())
                self.assertTrue(call(**named) == told)
                self.assertTrue(call(**dict(reversed(list(named.items())))) == told)
        self.tells("-", Desk().say(row="names"))

    def test_asked_the_same_again(self):
        first = [call(**named) for call, named in CALLS + TOLD_ALIKE]
        other = Kind(list(LINES))
        for call, named in CALLS:
            if "kind" in named and set(named) <= {"kind", "rack", "size", "one", "two"} and "thing" not in named:
                call(**dict(named, kind=other))
        for (call, named), told in zip(CALLS + TOLD_ALIKE, first):
            self.assertTrue(call(**named) == told, call.__qualname__)

    def test_lists_told_are_the_askers_own(self):
        for call, named in CALLS:
            first = call(**named)
            if isinstance(first, list):
                again = call(**named)
                self.assertIsNot(first, again)
                first.append(None)
                self.tells(again, call(**named))


class RefusalsTest(Checks):

    def test_twenty_refusals_each_of_its_own_class(self):
        wide = tuple(racks_of(KIND, [0, 13], (1,)))
        desk = Desk()
        refused = {
            "NoFraction": lambda: fraction(1, 0), "NoNumber": lambda: how_many(KIND, 61), "NoPoly": lambda: ups((0,)),
            "NoKind": lambda: Kind([]), "NoMaker": lambda: KIND.name(2), "NoTree": lambda: deep_of(KIND, (1,)),
            "NoRack": lambda: has_trees([1]), "NoThing": lambda: trees_of(KIND, (1,), (0, ())),
            "NoShape": lambda: flat_of("two"), "NoStep": lambda: rack_after(KIND, (0,), ("open", 0, 0)),
            "NoTurning": lambda: Turning(KIND, (1,), [("open", 0, 0), None]), "NoMatch": lambda: join(TURNING, TURNING),
            "NoPattern": lambda: matched(KIND, (1,), (0, (-2,)), None), "NoTrees": lambda: grown_by(KIND, (0,), []),
            "NotAlike": lambda: turning_between(KIND, (2,), (1,)), "TooLong": lambda: turning_between(KIND, *wide),
            "TooMuch": lambda: contrary_of(KIND, (200,)), "NoText": lambda: read_rack("x"),
            "NoName": lambda: desk.say("show a"), "NoRow": lambda: desk.say("show"),
        }
        self.assertEqual(20, len(refused))
        for name, call in refused.items():
            with self.subTest(name), self.assertRaises(SwapError) as caught:
                call()
            one = getattr(errors, name)
            self.assertIs(one, caught.exception.__class__)
            self.assertEqual((SwapError,), one.__bases__)
            self.assertEqual((ValueError,), SwapError.__bases__)
            for other in refused:
                self.assertEqual(other == name, isinstance(caught.exception, getattr(errors, other)))
            fields = {"NoTurning": ("at", 1), "NotAlike": ("paper", PAPER), "TooLong": ("weight", 13)}
            if name in fields:
                field, told = fields[name]
                self.tells(told, getattr(caught.exception, field))

    def test_things_that_cant_be_asked_anything(self):
        for call, error in (
            (lambda thing: nought_of(KIND) and contrary_of(KIND, thing), errors.NoRack),
            (lambda thing: grown_by(KIND, (1,), thing), errors.NoNumber),
            (lambda thing: grown_by(KIND, (1,), [thing]), errors.NoNumber),
            (lambda thing: reach_to(KIND, (1,), thing), errors.NoNumber),
            (lambda thing: matched(KIND, (1,), thing, None), errors.NoPattern),
            (lambda thing: matched(KIND, (1,), (0, (-1,)), thing), errors.NoThing),
            (lambda thing: power_of((1,), thing), errors.NoNumber),
            (lambda thing: comes_again(KIND, thing), errors.NoNumber),
            (lambda thing: count_to(KIND, (1,), thing), errors.NoNumber),
            (read_kind, errors.NoText), (read_rack, errors.NoText), (read_step, errors.NoText),
            (read_steps, errors.NoText), (read_poly, errors.NoText), (read_verdict, errors.NoText),
            (lambda thing: read_tree(KIND, thing), errors.NoText),
            (lambda thing: read_thing(KIND, (1,), thing), errors.NoText),
            (Desk().say, errors.NoRow),
        ):
            for thing in (Sulky(), [Sulky()], {}, [[]], True, False, None, 1.0):
                self.refused(error, call, thing)
        self.tells(("form",), fault_of(KIND, (1,), (1,), Sulky()))
        self.tells(False, is_pattern(KIND, (1,), Sulky()))


class TogetherTest(Growing):

    def test_verdicts_told_written_read_and_judged(self):
        for kind in more_kinds():
            for one, two, _ in alike_pairs(kind, 10, 20):
                for left, right in ((one, two), (two, one), (one, two + (0,)), (one + (1,), two), ((0,), two),
                                    (one, ())):
                    verdict = verdict_of(kind, left, right)
                    again = read_verdict(verdict_text(verdict))
                    self.tells(verdict, again)
                    self.tells(None, fault_of(kind, left, right, again))
                    self.tells(verdict[0] == "alike", are_alike(kind, left, right))

    def test_verdicts_by_rows(self):
        for kind in more_kinds()[:6]:
            for one, two, _ in alike_pairs(kind, 4, 21):
                desk = Desk()
                for row in ("kind k " + kind_text(kind), "rack a " + rack_text(one), "rack b " + rack_text(two),
                            "turn t k a b", "back u t", "join v t u"):
                    self.tells("ok", desk.say(row))
                steps = desk.say("steps t")
                told = read_steps("" if steps == "-" else steps.replace("; ", "\n"))
                turning = Turning(kind, one, told)
                self.assertTrue(turning == turning_between(kind, one, two))
                self.tells("good", desk.say("judge k a b alike" + ("" if steps == "-" else "; " + steps)))
                for number in range(3):
                    for size in range(8):
                        if number < how_many_things(kind, one, size):
                            thing = thing_at(kind, one, size, number)
                            led = desk.say("run t " + thing_text(kind, one, thing))
                            self.tells(turning.run(thing), read_thing(kind, two, led))
                            self.tells(thing_text(kind, one, thing), desk.say("unrun t " + led))
                            self.tells(thing_text(kind, one, thing), desk.say("run v " + thing_text(kind, one, thing)))

    def test_racks_as_numbers(self):
        for kind in more_kinds():
            one, two, three = (2, 0), (1, 1), (3,)
            unit, nought = unit_of(kind), nought_of(kind)

            def alike(left, right):
                self.tells(True, are_alike(kind, left, right))
            alike(put_beside(one, two), put_beside(two, one))
            alike(put_times(one, two), put_times(two, one))
            alike(put_times(one, put_beside(two, three)), put_beside(put_times(one, two), put_times(one, three)))
            alike(put_times(unit, three), three)
            alike(put_beside(three, nought), three)
            alike(put_beside(one, wanting(kind, one, two)), two)
            alike(wanting(kind, one, put_beside(one, two)), put_beside(two, nought))
            alike(contrary_of(kind, contrary_of(kind, one)), put_beside(one, nought))
            alike(power_of(one, 3), put_times(one, put_times(one, one)))
            # With alike ones put in place of each, all that is told stays alike.
            other = put_beside(one, nought)
            alike(put_times(one, two), put_times(other, two))
            alike(contrary_of(kind, one), contrary_of(kind, other))
            alike(wanting(kind, other, two), wanting(kind, one, two))

    def test_racks_as_numbers_by_rows(self):
        for kind in more_kinds():
            desk = Desk()
            for row in ("kind k " + makers_text(kind), "rack a 2 0", "rack b 1 1", "rack c 3", "beside d b c",
                        "times e a d", "times f a b", "times g a c", "beside h f g", "wanting w k a b", "beside x a w",
                        "contrary y k a", "beside y a y", "beside y b y"):
                self.tells("ok", desk.say(row))
            for row in ("alike k e h", "alike k x b", "alike k y b"):
                self.tells("yes", desk.say(row))
            pair = comes_again(kind, 60)
            self.tells("none" if pair is None else "{} {}".format(*pair), desk.say("again k 60"))
            if pair is not None:
                desk.say("rack i " + str(pair[0]))
                desk.say("rack j " + str(pair[1]))
                self.tells("yes", desk.say("alike k i j"))

    def test_shapes_that_come_again(self):
        # Seven trees in one, told as shapes: a tuple of trees is led to a tree, and back.
        shape = "tree"
        for _ in range(6):
            shape = ("both", "tree", shape)
        turning = turning_between(KIND, flat_of(shape), flat_of("tree"))
        forest = Forest([("tip", 0), ("fork", 2)])
        for tree in forest.trees(7):
            seven = folded(KIND, shape, turning.back(flattened(KIND, "tree", tree)))
            self.tells(True, is_of(KIND, shape, seven))
            self.tells(tree, folded(KIND, "tree", turning.run(flattened(KIND, shape, seven))))

    def test_told_turnings_put_together(self):
        for kind in more_kinds()[:8]:
            pairs = alike_pairs(kind, 3, 22)
            turnings = [turning_between(kind, one, two) for one, two, _ in pairs]
            for one, two in zip(turnings, turnings[1:]):
                beside = turn_beside(one, two)
                self.check_way(beside, one.begin + two.begin, one.end + two.end)
                self.tells(None, fault_of(kind, beside.begin, beside.end, ("alike", beside.steps())))
                round_and_back = join(one, one.turned())
                self.check_way(round_and_back, one.begin, one.begin)
                self.assertEqual(0, len(trimmed(round_and_back)))
                self.check_way(trimmed(beside), beside.begin, beside.end)
            small = grown_from_one(kind)
            spread = turn_spread((1, 0, 2), small)
            self.tells(put_times((1, 0, 2), small.end), spread.end)
            for thing in Forest(kind.makers()).things_up_to(spread.begin, 4):
                self.tells(spread.run(thing), by_table(kind, table_of(spread), thing))
            self.tells(True, are_same(join(small, small.turned()), Turning(kind, (1,), [])))

    def test_grown_and_reached_are_judged(self):
        for kind in more_kinds():
            for turning in (grown_by(kind, (2, 0), [1, 0, 3]), reach_to(kind, (2, 0), 9), grown_from_one(kind)):
                self.tells(True, are_alike(kind, turning.begin, turning.end))
                self.tells(None, fault_of(kind, turning.begin, turning.end, ("alike", turning.steps())))
                self.tells(turning.steps(), read_steps(steps_text(turning.steps())))

    def test_a_told_thing_greater_than_the_bounds(self):
        turning = grown_by(KIND, (40,) * 40, [40] * 60)
        self.assertTrue(Turning(KIND, turning.begin, turning.steps()) == turning)
        self.tells(turning.steps(), self.quick(read_steps, steps_text(turning.steps())))
        self.assertTrue(turning.turned().turned() == turning)
        while len(steps_text(turning.steps())) <= 20000:
            turning = join(turning, turning.turned())
        self.assertLess(400, len(turning))
        verdict = ("alike", turning.steps())
        self.tells(None, self.quick(fault_of, KIND, turning.begin, turning.end, read_verdict(verdict_text(verdict))))
        deep = Turning(KIND, (1,), [("open", at, 0) for at in range(199)]).back((199, (0,) * 200))
        self.tells((0, (1,) * 199 + (0,) * 200), deep)
        self.tells(deep, read_thing(KIND, (1,), thing_text(KIND, (1,), deep)))
        self.tells([deep[1]], matched(KIND, (1,), (0, (-1,)), deep))

    def test_nothing_that_is_handed_in_is_changed(self):
        kind = tip_fork()
        steps = [("open", 0, 0), ("order", (1, 0))]
        more = [1, 0]
        trees = [(0,)]
        rows = table_of(TURNING)
        told = list(rows)
        for call in (
            lambda: Turning(kind, (1,), steps), lambda: grown_by(kind, (1,), more), lambda: filled((0, (-1,)), trees),
            lambda: by_table(kind, rows, (0, (0,))), lambda: fault_of(kind, (1,), (2, 0), ("alike", steps)),
            lambda: steps_text(steps), lambda: verdict_text(("alike", steps)),
        ):
            call()
        self.tells([("open", 0, 0), ("order", (1, 0))], steps)
        self.tells(([1, 0], [(0,)], told), (more, trees, rows))
        self.tells([("tip", 0), ("fork", 2)], kind.makers())


if __name__ == "__main__":
    unittest.main()
