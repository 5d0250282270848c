"""[23] and [24]: turnings, where they lead things and back, turned and joined; [3]: what they promise."""

import unittest
from itertools import permutations

from boughswap.errors import NoMatch, NoRack, NoThing, NoTurning
from boughswap.kinds import Kind
from boughswap.racks import is_thing
from boughswap.steps import led_to, rack_after
from boughswap.turnings import Turning, join
from helping import (
    ALL_MAKERS, FIVE, FORK_TIP, LINES, TIP_FORK, Checks, Forest, Sulky, no_racks, no_things, no_wholes,
    tip_fork,
)
from some_turnings import some_turnings

STEPS = [("open", 0, 0), ("open", 1, 1), ("order", (2, 0, 1)), ("open", 0, 2), ("order", (3, 1, 2, 0))]
RACKS = [(1,), (0, 2), (0, 1, 3), (3, 0, 1), (2, 4, 0, 1), (1, 4, 0, 2)]


class FieldsTest(Checks):

    def test_fields_steps_racks_and_len(self):
        kind = tip_fork()
        turning = Turning(kind, (1,), list(STEPS))
        self.assertTrue(turning.kind == kind)
        self.tells((1,), turning.begin)
        self.tells((1, 4, 0, 2), turning.end)
        self.tells(STEPS, turning.steps())
        self.tells(RACKS, turning.racks())
        self.tells(5, len(turning))

    def test_no_steps(self):
        kind = tip_fork()
        for rack in ((), (0,), (3, 1), (200,) * 4000):
            turning = Turning(kind, rack, [])
            self.tells((rack, rack), (turning.begin, turning.end))
            self.tells(([], [rack], 0), (turning.steps(), turning.racks(), len(turning)))
        self.tells((0, (0,)), Turning(kind, (1,), []).run((0, (0,))))
        self.tells((0, (0,)), Turning(kind, (1,), []).back((0, (0,))))

    def test_by_names(self):
        kind = tip_fork()
        for turning in (Turning(kind, (1,), list(STEPS)), Turning(steps=list(STEPS), rack=(1,), kind=kind)):
            self.tells(STEPS, turning.steps())
            self.tells_both((3, (0, 1, 0, 0)), turning.run, thing=(0, (1, 0, 1, 1, 0, 0, 0)))
            self.tells_both((0, (1, 0, 1, 1, 0, 0, 0)), turning.back, thing=(3, (0, 1, 0, 0)))
        self.tells_both(True, lambda one, two: join(one=one, two=two) == join(one, two), one=turning,
                        two=turning.turned())

    def test_the_list_handed_in_is_apart_from_the_turning(self):
        kind = tip_fork()
        steps = list(STEPS)
        turning = Turning(kind, (1,), steps)
        self.tells(STEPS, steps)
        steps[0] = ("open", 7, 7)
        steps.append(None)
        self.tells(STEPS, turning.steps())
        self.tells(5, len(turning))
        self.tells(RACKS, turning.racks())
        self.tells((3, (0, 1, 0, 0)), turning.run((0, (1, 0, 1, 1, 0, 0, 0))))
        steps.clear()
        self.tells(list(reversed(RACKS)), turning.turned().racks())
        empty = []
        other = Turning(kind, (1,), empty)
        empty.append(STEPS[0])
        self.tells((0, (1,)), (len(other), other.end))

    def test_the_makers_changed_behind_change_no_turning(self):
        makers = list(TIP_FORK)
        turning = Turning(Kind(makers), (1,), list(STEPS))
        makers.reverse()
        self.tells((3, (0, 1, 0, 0)), turning.run((0, (1, 0, 1, 1, 0, 0, 0))))

    def test_each_list_told_is_a_new_one(self):
        turning = Turning(tip_fork(), (1,), list(STEPS))
        turning.steps().clear()
        turning.racks().append(None)
        turning.racks()[0] = (7,)
        turning.steps()[0] = None
        self.tells(STEPS, turning.steps())
        self.tells(RACKS, turning.racks())
        self.tells(5, len(turning))


class RefusedTest(Checks):

    def at_of(self, *told):
        with self.assertRaises(NoTurning) as caught:
            Turning(*told)
        self.assertIs(NoTurning, caught.exception.__class__)
        self.assertIs(int, type(caught.exception.at))
        return caught.exception.at

    def test_no_rack_first(self):
        kind = tip_fork()
        for rack in no_racks():
            for steps in ([], None, [None], Sulky(), ()):
                with self.subTest(repr(rack)[:60]):
                    self.refused_both(NoRack, Turning, kind=kind, rack=rack, steps=steps)

    def test_no_list(self):
        kind = tip_fork()
        odd = [0, tuple(STEPS), iter(STEPS), STEPS[0], "open 0 0", {0: STEPS[0]}]
        for steps in odd + [thing for thing in no_wholes() if not isinstance(thing, list)]:
            with self.subTest(repr(steps)):
                self.assertEqual(-1, self.at_of(kind, (1,), steps))

    def test_the_first_step_that_cant_be_done(self):
        kind = tip_fork()
        bad = [None, (), "open", ("open", 0, 3), ("open", 9, 0), ("close", 3, 0), ("order", (1,)), ["open", 0, 0],
               Sulky(),
               ("open", True, 0), 0, ("open", 0), [], ("close", 0, 0, 0)]
        for at in range(len(STEPS) + 1):
            for step in bad:
                with self.subTest(at=at, step=repr(step)):
                    self.assertEqual(at, self.at_of(kind, (1,), STEPS[:at] + [step] + STEPS[at:]))
                    self.assertEqual(at, self.at_of(kind, (1,), STEPS[:at] + [step, None]))

    def test_a_step_that_can_be_done_on_the_first_rack_alone(self):
        kind = tip_fork()
        self.assertEqual(1, self.at_of(kind, (1,), [("open", 0, 0), ("open", 0, 0)]))
        self.assertEqual(2, self.at_of(kind, (1,), [("open", 0, 0), ("close", 0, 0), ("close", 0, 0)]))
        self.assertEqual(0, self.at_of(kind, (), [("open", 0, 0)]))

    def test_a_rack_on_the_way_that_is_none(self):
        kind = tip_fork()
        self.assertEqual(0, self.at_of(kind, (200,), [("open", 0, 0), ("close", 0, 0)]))
        self.assertEqual(1, self.at_of(kind, (199,), [("open", 0, 0), ("open", 1, 0), ("close", 1, 0)]))
        self.assertEqual(0, self.at_of(kind, (1,) + (0,) * 3999, [("open", 0, 0)]))
        self.assertEqual(3, self.at_of(kind, (2,) + (0,) * 3998, [
            ("open", 0, 0), ("close", 0, 0), ("open", 0, 1), ("open", 0, 0), ("close", 0, 0),
        ]))
        five = Kind(list(FIVE))
        self.assertEqual(0, self.at_of(five, (198,), [("open", 0, 0)]))
        self.tells((196, 197, 198, 199, 200), Turning(five, (197,), [("open", 0, 0)]).end)

    def test_no_thing(self):
        turning = Turning(tip_fork(), (1,), list(STEPS))
        for thing in no_things() + [(1, (0,)), (0, ()), (0, (0, 0)), (4, (0,)), (2, (0,)), (3, (0,)), (3, (0, 1))]:
            with self.subTest(repr(thing)):
                self.refused(NoThing, turning.run, thing)
                self.refused_both(NoThing, turning.back, thing=thing)
        # A thing of the other end is none.
        self.refused(NoThing, turning.run, (3, (0, 1, 0, 0)))
        self.refused(NoThing, turning.turned().run, (1, (0,)))
        empty = Turning(tip_fork(), (), [("order", ())])
        self.refused(NoThing, empty.run, (0, ()))
        self.refused(NoThing, empty.back, (0, ()))


class RunTest(Checks):

    def test_step_by_step_and_back(self):
        for makers in ALL_MAKERS:
            forest = Forest(makers)
            for turning in some_turnings(makers):
                led = []
                for thing in forest.things_up_to(turning.begin, 5):
                    on_the_way = thing
                    for step, rack in zip(turning.steps(), turning.racks()):
                        on_the_way = led_to(turning.kind, rack, step, on_the_way)
                    self.tells(on_the_way, turning.run(thing))
                    self.tells(thing, turning.back(on_the_way))
                    led.append(on_the_way)
                self.assertEqual(len(led), len(set(led)))

    def test_each_thing_of_the_end_comes_of_one(self):
        for makers in ALL_MAKERS:
            forest = Forest(makers)
            for turning in some_turnings(makers):
                for thing in forest.things_up_to(turning.end, 4):
                    back = turning.back(thing)
                    self.assertTrue(is_thing(turning.kind, turning.begin, back))
                    self.tells(thing, turning.run(back))

    def test_racks_are_those_behind_the_steps(self):
        for makers in ALL_MAKERS:
            for turning in some_turnings(makers):
                racks = [turning.begin]
                for step in turning.steps():
                    racks.append(rack_after(turning.kind, racks[-1], step))
                self.tells(racks, turning.racks())
                self.tells(racks[-1], turning.end)
                self.tells(len(racks) - 1, len(turning))

    def test_four_hundred_steps(self):
        kind = tip_fork()
        steps = [("open", at, 0) for at in range(199)] + [("order", tuple(range(199, -1, -1)))]
        steps = steps + [("order", tuple(range(199, -1, -1)))] + [("close", at, 0) for at in range(198, -1, -1)]
        self.tells(400, len(steps))
        turning = self.quick(Turning, kind, (1,), steps)
        self.tells((1,), turning.end)
        self.tells(401, len(turning.racks()))
        tree = (1,) * 49 + (0,) * 50
        self.tells((0, tree), self.quick(turning.run, (0, tree)))
        self.tells((0, tree), self.quick(turning.back, (0, tree)))
        opened = Turning(kind, (1,), steps[:199])
        self.tells(tuple(range(199)) + (200,), opened.end)
        thing = (199, tree * 200)
        there = self.quick(opened.back, thing)
        # 199 forks, one within the other: deeper than any tree that is handed in of one's own.
        self.tells((0, (1,) * 199 + tree * 200), there)
        self.tells(thing, self.quick(opened.run, there))

    def test_wide_racks(self):
        kind = tip_fork()
        places = tuple(range(3999, -1, -1))
        turning = self.quick(Turning, kind, (0, 2) * 2000, [("order", places)] * 100)
        self.tells((1, (0, 0)), turning.run((1, (0, 0))))


class AlikeTest(Checks):

    def test_alike_where_kinds_begins_and_steps_are(self):
        turning = Turning(tip_fork(), (1,), list(STEPS))
        self.assertIs(True, turning == Turning(Kind(list(TIP_FORK)), (1,), list(STEPS)))
        self.assertIs(False, turning != Turning(Kind(list(TIP_FORK)), (1,), list(STEPS)))
        others = [
            Turning(tip_fork(), (1,), STEPS[:-1]), Turning(tip_fork(), (1, 0), STEPS[:2]),
            Turning(tip_fork(), (1,), []),
            Turning(Kind([("tip", 0), ("bough", 2)]), (1,), list(STEPS)),
            Turning(tip_fork(), (1,), STEPS[:-1] + [("order", (3, 2, 1, 0))]), turning.turned(),
        ]
        for other in others:
            self.assertIs(False, turning == other)
            self.assertIs(True, turning != other)
        # Without steps the racks alone part them.
        self.assertIs(False, Turning(tip_fork(), (1,), []) == Turning(tip_fork(), (2,), []))
        self.assertIs(False, Turning(tip_fork(), (1,), []) == Turning(Kind(list(FORK_TIP)), (1,), []))
        # Steps that lead alike are other steps.
        self.assertIs(False, Turning(tip_fork(), (2, 2), []) == Turning(tip_fork(), (2, 2), [("order", (0, 1))]))

    def test_a_turning_equals_nothing_else(self):
        turning = Turning(tip_fork(), (1,), list(STEPS))
        for thing in no_wholes() + [0, STEPS, tuple(STEPS), (1,), tip_fork(), (tip_fork(), (1,), STEPS)]:
            if not isinstance(thing, Sulky):
                self.assertIs(False, turning == thing)
                self.assertIs(True, turning != thing)
        self.assertIs(False, turning.__eq__(Sulky()))
        self.assertIs(False, tip_fork() == turning)


class TurnedTest(Checks):

    def test_turned(self):
        turning = Turning(tip_fork(), (1,), list(STEPS))
        turned = turning.turned()
        self.tells((1, 4, 0, 2), turned.begin)
        self.tells((1,), turned.end)
        self.tells([("order", (3, 1, 2, 0)), ("close", 0, 2), ("order", (1, 2, 0)), ("close", 1, 1), ("close", 0, 0)],
                   turned.steps())
        self.tells(list(reversed(RACKS)), turned.racks())

    def test_its_run_is_this_ones_back(self):
        for makers in ALL_MAKERS:
            forest = Forest(makers)
            for turning in some_turnings(makers):
                turned = turning.turned()
                self.assertTrue(turned.kind == turning.kind)
                self.assertTrue(turned.turned() == turning)
                self.tells((turning.end, turning.begin), (turned.begin, turned.end))
                for thing in forest.things_up_to(turning.end, 4):
                    self.tells(turning.back(thing), turned.run(thing))
                for thing in forest.things_up_to(turning.begin, 4):
                    self.tells(turning.run(thing), turned.back(thing))

    def test_an_order_that_is_no_way_back_of_its_own(self):
        for places in permutations(range(4)):
            turning = Turning(tip_fork(), (0, 1, 2, 3), [("order", places)])
            way_back = tuple([places.index(place) for place in range(4)])
            self.tells([("order", way_back)], turning.turned().steps())
            self.tells((0, 1, 2, 3), turning.turned().end)


class JoinTest(Checks):

    def test_steps_and_ends(self):
        kind = tip_fork()
        one, two = Turning(kind, (1,), STEPS[:2]), Turning(tip_fork(), (0, 1, 3), STEPS[2:])
        both = join(one, two)
        self.assertTrue(both == Turning(kind, (1,), list(STEPS)))
        self.tells((STEPS, (1,), (1, 4, 0, 2)), (both.steps(), both.begin, both.end))
        self.tells(RACKS, both.racks())
        self.tells((STEPS[:2], STEPS[2:]), (one.steps(), two.steps()))

    def test_run_is_one_behind_the_other(self):
        for makers in ALL_MAKERS:
            forest = Forest(makers)
            for turning in some_turnings(makers):
                for at in range(len(turning) + 1):
                    kind = turning.kind
                    one = Turning(kind, turning.begin, turning.steps()[:at])
                    two = Turning(kind, one.end, turning.steps()[at:])
                    both = join(one, two)
                    self.assertTrue(both == turning)
                    for thing in forest.things_up_to(turning.begin, 3):
                        self.tells(two.run(one.run(thing)), both.run(thing))

    def test_joined_of_joined(self):
        kind = tip_fork()
        parts = [Turning(kind, rack, [step]) for rack, step in zip(RACKS, STEPS)]
        one = join(join(join(parts[0], parts[1]), join(parts[2], parts[3])), parts[4])
        two = join(parts[0], join(parts[1], join(parts[2], join(parts[3], parts[4]))))
        self.assertTrue(one == two)
        self.tells(STEPS, one.steps())
        there_and_back = join(one, one.turned())
        self.tells((10, (1,), (1,)), (len(there_and_back), there_and_back.begin, there_and_back.end))
        for thing in Forest(TIP_FORK).things_up_to((1,), 9):
            self.tells(thing, there_and_back.run(thing))
        self.assertTrue(join(Turning(kind, (1,), []), one) == one)
        self.assertTrue(join(one, Turning(kind, one.end, [])) == one)

    def test_no_match(self):
        kind = tip_fork()
        one = Turning(kind, (1,), STEPS[:1])
        for two in (one, Turning(kind, (2, 0), []), Turning(kind, (0, 2, 0), []), Turning(kind, (), []),
                    Turning(Kind(list(FORK_TIP)), (0, 2), []), Turning(Kind([("tip", 0), ("bough", 2)]), (0, 2), []),
                    Turning(Kind(list(LINES)), (0, 2), [])):
            self.refused_both(NoMatch, join, one=one, two=two)
        self.refused(NoMatch, join, one, one)


if __name__ == "__main__":
    unittest.main()
