"""[18] to [22]: steps, the racks behind them, where they lead things, and what undoes them."""

import unittest
from itertools import permutations

from boughswap.errors import NoRack, NoStep, NoThing, TooMuch
from boughswap.kinds import Kind
from boughswap.racks import is_thing
from boughswap.steps import can_do, closes_of, led_back, led_to, opens_of, rack_after, undone
from helping import (
    ALL_MAKERS, FIVE, GREAT, LINES, PAIRS, Checks, Forest, Sulky, no_racks, no_things, no_tuples, no_wholes, some_kinds,
    tip_fork,
)

TREE = (1, 0, 1, 0, 0)


def small_steps(makers, rack):
    """All steps that the document's words allow on a small rack."""
    out = [("open", place, slot) for place, form in enumerate(rack) for slot in range(form)]
    for place in range(len(rack)):
        for many in range(1, 9):
            forms = tuple([many - 1 + within for name, within in makers])
            if rack[place:place + len(forms)] == forms:
                out.extend([("close", place, slot) for slot in range(many)])
    if len(rack) <= 3:
        out.extend([("order", places) for places in permutations(range(len(rack)))])
    return out


def opened(makers, form):
    return tuple([form - 1 + within for name, within in makers])


def racks_for(makers):
    """Small racks, some of which can be closed at some place."""
    return [(), (0,), (1,), (2, 0), (1, 1), opened(makers, 1), (1,) + opened(makers, 2), opened(makers, 1) + (3,),
            (0,) + opened(makers, 3) + opened(makers, 1), opened(makers, 2)[1:] + opened(makers, 2)]


class CanDoTest(Checks):

    def test_all_small_steps(self):
        for makers in ALL_MAKERS:
            kind = Kind(list(makers))
            for rack in racks_for(makers):
                good = small_steps(makers, rack)
                for word in ("open", "close"):
                    for place in range(-2, len(rack) + 2):
                        for slot in range(-2, 9):
                            step = (word, place, slot)
                            self.tells(step in good, can_do(kind, rack, step))

    def test_open(self):
        kind = tip_fork()
        rack = (2, 0, 200)
        for step in (("open", 0, 0), ("open", 0, 1), ("open", 2, 0), ("open", 2, 199)):
            self.tells(True, can_do(kind, rack, step))
        for step in (("open", 0, 2), ("open", 1, 0), ("open", 3, 0), ("open", -1, 0), ("open", 0, -1), ("open", 2, 200),
                     ("open", GREAT, 0), ("open", 0, GREAT), ("open", -3, 0)):
            self.tells(False, can_do(kind, rack, step))

    def test_close(self):
        kind = tip_fork()
        rack = (3, 0, 2, 1, 3, 0)
        for step in (("close", 1, 0), ("close", 3, 0), ("close", 3, 1)):
            self.tells(True, can_do(kind, rack, step))
        for step in (("close", 1, 1), ("close", 3, 2), ("close", 3, -1), ("close", 0, 0), ("close", 2, 0),
                     ("close", 4, 0),
                     ("close", 5, 0), ("close", 6, 0), ("close", -1, 0), ("close", -3, 0)):
            self.tells(False, can_do(kind, rack, step))

    def test_forms_that_are_nearly_right(self):
        for makers in ALL_MAKERS:
            kind = Kind(list(makers))
            forms = opened(makers, 2)
            self.tells(True, can_do(kind, forms, ("close", 0, 1)))
            self.tells(False, can_do(kind, forms, ("close", 0, 2)))
            self.tells(False, can_do(kind, forms[:-1], ("close", 0, 0)))
            self.tells(False, can_do(kind, forms[1:], ("close", 0, 0)))
            for at in range(len(forms)):
                for more in (-1, 1):
                    near = forms[:at] + (forms[at] + more,) + forms[at + 1:]
                    self.tells(False, can_do(kind, near, ("close", 0, 0)))

    def test_in_the_makers_order(self):
        kind = Kind(list(FIVE))
        self.tells(True, can_do(kind, (0, 1, 2, 3, 4), ("close", 0, 0)))
        for rack in ((1, 0, 2, 3, 4), (4, 3, 2, 1, 0), (0, 1, 2, 4, 3), (0, 1, 2, 3, 4)[::-1]):
            self.tells(False, can_do(kind, rack, ("close", 0, 0)))
        self.tells(True, can_do(Kind(list(LINES)), (1, 3, 0), ("close", 0, 0)))
        self.tells(False, can_do(Kind(list(LINES)), (0, 1, 3), ("close", 0, 0)))

    def test_k_of_nought_and_near_two_hundred(self):
        # A fork of k - 1 = -1 trees and two within has one; no tip has -1.
        kind = Kind([("fork", 2), ("line", 1), ("tip", 0)])
        self.tells(False, can_do(kind, (1, 0, 0), ("close", 0, 0)))
        self.tells(True, can_do(kind, (2, 1, 0), ("close", 0, 0)))
        self.tells(False, can_do(kind, (2, 1, 0), ("close", 0, 1)))
        self.tells(True, can_do(kind, (200, 199, 198), ("close", 0, 198)))
        self.tells(False, can_do(kind, (200, 199, 198), ("close", 0, 199)))
        self.tells((199,), rack_after(kind, (200, 199, 198), ("close", 0, 0)))
        wide = Kind([("four", 4), ("tip", 0)])
        self.tells(False, can_do(wide, (3, 0), ("close", 0, 0)))
        self.tells(True, can_do(wide, (200, 196), ("close", 0, 196)))
        self.tells(False, can_do(wide, (200, 200), ("close", 0, 0)))

    def test_order(self):
        kind = tip_fork()
        rack = (5, 0, 7)
        for places in permutations(range(3)):
            self.tells(True, can_do(kind, rack, ("order", places)))
        for places in ((0, 1), (0, 1, 2, 3), (), (0, 0, 1), (0, 1, 1), (2, 2, 2), (1, 2, 3), (-1, 0, 1), (0, 1, -1),
                       (0, 1, GREAT),
                       [0, 1, 2], "012", (0, 1, True), (False, 1, 2), (0, True, 2), (0, 1, 2.0), (0, 1, "2"),
                       (0, 1, None),
                       (0, 1, (2,)), ((0, 1, 2),), (0, 1, Sulky()), {0, 1, 2}, {0: 0, 1: 1, 2: 2}, range(3), None, 0,
                       Sulky(), 3):
            with self.subTest(repr(places)):
                self.tells(False, can_do(kind, rack, ("order", places)))
        self.tells(True, can_do(kind, (), ("order", ())))
        self.tells(False, can_do(kind, (), ("order", (0,))))
        self.tells(False, can_do(kind, (), ("open", 0, 0)))
        self.tells(False, can_do(kind, (), ("close", 0, 0)))
        self.tells(True, can_do(kind, (3,), ("order", (0,))))
        self.tells(True, can_do(kind, (0,) * 4000, ("order", tuple(range(3999, -1, -1)))))

    def bad_steps(self):
        out = no_tuples() + [
            (), ("open",), ("open", 0), ("open", 0, 0, 0), ("close", 1), ("close", 1, 0, 0), ("close",), ("order",),
            ("order", (0, 1, 2), 0), ("order", 0, 1, 2), ["open", 0, 0], ["close", 1, 0], ["order", (0, 1, 2)],
            ("Open", 0, 0), ("opens", 0, 0), ("", 0, 0), ("shut", 0, 0), ("shut", 1, 0), ("Close", 1, 0),
            ("order", 1, 0), ("", 1, 0), (b"close", 1, 0), (b"open", 0, 0), (0, "open", 0), (None, 0, 0),
            (("open",), 0, 0), ("open", (0,), 0), ("open", 0, (0,)), ("open", [0], 0), (Sulky(), 0, 0),
            (Sulky(), (0, 1, 2)),
            ("order", 0, 0), ("open", (0, 1, 2)), ("close", (0, 1, 2)), "open", "open 0 0", (("open", 0, 0),),
            (["open"], 0, 0),
        ]
        for thing in no_wholes():
            for word in ("open", "close"):
                out.extend([(word, thing, 0), (word, 0, thing), (word, 1, thing)])
        return out

    def test_what_is_no_step(self):
        kind = tip_fork()
        rack = (3, 0, 2)
        for step in self.bad_steps():
            with self.subTest(repr(step)):
                self.tells(False, can_do(kind, rack, step))
                self.refused(NoStep, rack_after, kind, rack, step)
                self.refused(NoStep, undone, kind, rack, step)
                for thing in ((1, ()), None, Sulky()):
                    self.refused(NoStep, led_to, kind, rack, step, thing)
                    self.refused(NoStep, led_back, kind, rack, step, thing)

    def test_no_rack_first(self):
        kind = tip_fork()
        for rack in no_racks():
            for step in (("open", 0, 0), ("order", ()), None, Sulky()):
                with self.subTest(rack=repr(rack)[:60], step=repr(step)):
                    self.refused(NoRack, can_do, kind, rack, step)
                    self.refused(NoRack, rack_after, kind, rack, step)
                    self.refused(NoRack, undone, kind, rack, step)
                    self.refused(NoRack, led_to, kind, rack, step, None)
                    self.refused(NoRack, led_back, kind, rack, step, None)
            self.refused(NoRack, opens_of, rack)
            self.refused(NoRack, closes_of, kind, rack)


class RackAfterTest(Checks):

    def test_example(self):
        kind = tip_fork()
        self.tells((0, 2), rack_after(kind, (1,), ("open", 0, 0)))
        self.tells((0, 1, 3), rack_after(kind, (0, 2), ("open", 1, 1)))

    def test_open_first_middle_and_last(self):
        kind = Kind(list(LINES))
        rack = (2, 5, 1)
        for slot in range(2):
            self.tells((2, 4, 1, 5, 1), rack_after(kind, rack, ("open", 0, slot)))
        for slot in range(5):
            self.tells((2, 5, 7, 4, 1), rack_after(kind, rack, ("open", 1, slot)))
        self.tells((2, 5, 1, 3, 0), rack_after(kind, rack, ("open", 2, 0)))
        self.tells((0, 1, 2, 3, 4), rack_after(Kind(list(FIVE)), (1,), ("open", 0, 0)))

    def test_close_first_middle_and_last(self):
        kind = Kind(list(LINES))
        self.tells((2, 5, 1), rack_after(kind, (2, 4, 1, 5, 1), ("close", 0, 1)))
        self.tells((2, 5, 1), rack_after(kind, (2, 5, 7, 4, 1), ("close", 1, 4)))
        self.tells((2, 5, 1), rack_after(kind, (2, 5, 1, 3, 0), ("close", 2, 0)))
        self.tells((1,), rack_after(kind, (1, 3, 0), ("close", 0, 0)))

    def test_order(self):
        kind = tip_fork()
        self.tells((7, 5, 6), rack_after(kind, (5, 6, 7), ("order", (2, 0, 1))))
        self.tells((6, 7, 5), rack_after(kind, (5, 6, 7), ("order", (1, 2, 0))))
        self.tells((5, 6, 7), rack_after(kind, (5, 6, 7), ("order", (0, 1, 2))))
        self.tells((), rack_after(kind, (), ("order", ())))

    def test_too_many_forms(self):
        kind = tip_fork()
        rack = (1,) + (0,) * 3998
        self.tells((0, 2) + (0,) * 3998, rack_after(kind, rack, ("open", 0, 0)))
        five = Kind(list(FIVE))
        for own, full in ((kind, rack + (0,)), (five, (1,) + (0,) * 3996), (five, (0,) * 3999 + (1,))):
            step = ("open", full.index(1), 0)
            self.tells(True, can_do(own, full, step))
            self.refused(TooMuch, rack_after, own, full, step)
            self.refused(TooMuch, undone, own, full, step)
            for thing in ((full.index(1), (0,)), (full.index(0), ()), None, Sulky()):
                self.refused(TooMuch, led_to, own, full, step, thing)
                self.refused(TooMuch, led_back, own, full, step, thing)
        self.tells(4000, len(rack_after(five, (1,) + (0,) * 3995, ("open", 0, 0))))
        self.tells(3999, len(rack_after(kind, (0, 2) + (0,) * 3998, ("close", 0, 0))))

    def test_too_many_trees(self):
        kind = tip_fork()
        self.tells((198, 200), rack_after(kind, (199,), ("open", 0, 198)))
        self.refused(TooMuch, rack_after, kind, (200,), ("open", 0, 0))
        self.refused(TooMuch, led_to, kind, (200,), ("open", 0, 0), (0, (0,) * 200))
        five = Kind(list(FIVE))
        self.tells((196, 197, 198, 199, 200), rack_after(five, (197,), ("open", 0, 0)))
        for form in (198, 199, 200):
            self.tells(True, can_do(five, (form,), ("open", 0, form - 1)))
            self.refused(TooMuch, rack_after, five, (form,), ("open", 0, form - 1))
            self.refused(TooMuch, led_back, five, (form,), ("open", 0, 0), (0, ()))
            self.refused(TooMuch, undone, five, (form,), ("open", 0, 0))

    def test_no_step_ahead_of_too_much(self):
        kind = tip_fork()
        self.refused(NoStep, rack_after, kind, (200,), ("open", 0, 200))
        self.refused(NoStep, rack_after, kind, (1,) + (0,) * 3999, ("open", 0, 1))
        self.refused(NoStep, led_to, kind, (1,) + (0,) * 3999, ("open", 1, 0), (0, (0,)))


class LedTest(Checks):

    def test_example(self):
        kind = tip_fork()
        thing = (0, (1, 0, 1, 1, 0, 0, 0))
        first = led_to(kind, (1,), ("open", 0, 0), thing)
        self.tells((1, (0, 1, 1, 0, 0, 0)), first)
        second = led_to(kind, (0, 2), ("open", 1, 1), first)
        self.tells((2, (0, 1, 0, 0, 0)), second)
        self.tells(first, led_back(kind, (0, 2), ("open", 1, 1), second))
        self.tells(thing, led_back(kind, (1,), ("open", 0, 0), first))

    def test_open_in_each_slot(self):
        kind = tip_fork()
        rack = (1, 3, 0, 1)
        row = (1, 0, 0) + (0,) + TREE
        self.tells((2, (0, 0) + (0,) + TREE), led_to(kind, rack, ("open", 1, 0), (1, row)))
        self.tells((1, (1, 0, 0) + TREE), led_to(kind, rack, ("open", 1, 1), (1, row)))
        self.tells((2, (1, 0, 0) + (0,) + TREE[1:]), led_to(kind, rack, ("open", 1, 2), (1, row)))
        for slot in range(3):
            self.tells((0, TREE), led_to(kind, rack, ("open", 1, slot), (0, TREE)))
            self.tells((3, ()), led_to(kind, rack, ("open", 1, slot), (2, ())))
            self.tells((4, TREE), led_to(kind, rack, ("open", 1, slot), (3, TREE)))

    def test_close_in_each_slot_also_behind_all(self):
        kind = tip_fork()
        rack = (1, 2, 4, 1)
        self.tells((1, (0,) + TREE + (0,)), led_to(kind, rack, ("close", 1, 0), (1, TREE + (0,))))
        self.tells((1, TREE + (0,) + (0,)), led_to(kind, rack, ("close", 1, 1), (1, TREE + (0,))))
        self.tells((1, TREE + (0,) + (0,)), led_to(kind, rack, ("close", 1, 2), (1, TREE + (0,))))
        self.tells((1, TREE + TREE + (0,)), led_to(kind, rack, ("close", 1, 2), (1, TREE + TREE)))
        row = (0,) + TREE + (1, 0, 0) + (0,)
        self.tells((1, (1,) + row), led_to(kind, rack, ("close", 1, 0), (2, row)))
        self.tells((1, (0, 1) + row[1:]), led_to(kind, rack, ("close", 1, 1), (2, row)))
        self.tells((1, (0,) + TREE + (1,) + row[6:]), led_to(kind, rack, ("close", 1, 2), (2, row)))
        for slot in range(3):
            self.tells((0, TREE), led_to(kind, rack, ("close", 1, slot), (0, TREE)))
            self.tells((2, TREE), led_to(kind, rack, ("close", 1, slot), (3, TREE)))

    def test_close_alone_behind_all(self):
        kind = tip_fork()
        self.tells((0, (0,)), led_to(kind, (0, 2), ("close", 0, 0), (0, ())))
        self.tells((0, (1, 0, 0)), led_to(kind, (0, 2), ("close", 0, 0), (1, (0, 0))))

    def test_order(self):
        kind = tip_fork()
        rack = (1, 2, 3)
        rows = [TREE, TREE + (0,), (0, 0, 0)]
        for places in permutations(range(3)):
            step = ("order", places)
            for new, old in enumerate(places):
                self.tells((new, rows[old]), led_to(kind, rack, step, (old, rows[old])))
                self.tells((old, rows[old]), led_back(kind, rack, step, (new, rows[old])))

    def test_there_and_back_of_all_small_things(self):
        for makers in ALL_MAKERS:
            kind = Kind(list(makers))
            forest = Forest(makers)
            for rack in racks_for(makers):
                if max(rack, default=0) <= 5:
                    things = forest.things_up_to(rack, 4)
                    for step in small_steps(makers, rack):
                        self.check_step(kind, forest, rack, step, things)

    def check_step(self, kind, forest, rack, step, things):
        after = rack_after(kind, rack, step)
        led = []
        for thing in things:
            told = led_to(kind, rack, step, thing)
            self.assertTrue(is_thing(kind, after, told))
            self.tells(thing, led_back(kind, rack, step, told))
            led.append(told)
        self.assertEqual(len(things), len(set(led)))
        for thing in forest.things_up_to(after, 3):
            back = led_back(kind, rack, step, thing)
            self.assertTrue(is_thing(kind, rack, back))
            self.tells(thing, led_to(kind, rack, step, back))

    def test_a_maker_is_taken_out_or_put_in_where_it_stands(self):
        for kind in some_kinds():
            leaf = (kind.first_leaf(),)
            rack = (0, 2)
            for maker in range(len(kind)):
                tree = (maker,) + leaf * kind.within(maker)
                first = led_to(kind, rack, ("open", 1, 0), (1, tree + leaf))
                self.tells((1 + maker, tree[1:] + leaf), first)
                second = led_to(kind, rack, ("open", 1, 1), (1, leaf + tree))
                self.tells((1 + maker, leaf + tree[1:]), second)

    def test_deep_trees(self):
        kind = tip_fork()
        deep = (1,) * 2000 + (0,) * 2001
        self.tells((1, deep[1:]), led_to(kind, (1,), ("open", 0, 0), (0, deep)))
        self.tells((0, deep), led_to(kind, (0, 2), ("close", 0, 0), (1, deep[1:])))

    def test_no_thing_last(self):
        kind = tip_fork()
        for step in (("open", 2, 1), ("close", 0, 0), ("order", (2, 1, 0))):
            rack = (0, 2, 2)
            for thing in no_things() + [(0, (0,)), (1, ()), (3, (0, 0)), (1, (0, 0, 0))]:
                with self.subTest(step=step, thing=repr(thing)):
                    self.refused(NoThing, led_to, kind, rack, step, thing)
        # A thing of the rack behind is not asked for by led_to, nor one of the rack ahead by led_back.
        self.refused(NoThing, led_to, kind, (1,), ("open", 0, 0), (1, (0, 0)))
        self.refused(NoThing, led_back, kind, (1,), ("open", 0, 0), (0, (0,)))
        self.refused(NoThing, led_back, kind, (0, 2), ("close", 0, 0), (1, (0, 0)))
        self.refused(NoThing, led_back, kind, (1, 2), ("order", (1, 0)), (0, (0,)))
        self.refused(NoThing, led_to, kind, (1, 2), ("order", (1, 0)), (0, (0, 0)))
        for thing in no_things():
            with self.subTest(repr(thing)):
                self.refused(NoThing, led_back, kind, (1,), ("open", 0, 0), thing)

    def test_by_names(self):
        kind = tip_fork()
        told = {"kind": kind, "rack": (1,), "step": ("open", 0, 0)}
        self.tells_both(True, can_do, **told)
        self.tells_both((0, 2), rack_after, **told)
        self.tells_both((0, ()), led_to, **told, thing=(0, (0,)))
        self.tells_both((0, (0,)), led_back, **told, thing=(0, ()))
        self.tells_both(("close", 0, 0), undone, **told)
        self.tells_both([("open", 0, 0)], opens_of, rack=(1,))
        self.tells_both([("close", 0, 0)], closes_of, kind=kind, rack=(0, 2))
        self.refused_both(NoThing, led_to, **told, thing=(0, ()))
        self.refused_both(NoThing, led_back, **told, thing=(1, ()))


class UndoneTest(Checks):

    def test_each_small_step(self):
        for makers in ALL_MAKERS:
            kind = Kind(list(makers))
            forest = Forest(makers)
            for rack in racks_for(makers):
                for step in small_steps(makers, rack):
                    after = rack_after(kind, rack, step)
                    way_back = undone(kind, rack, step)
                    self.tells(rack, rack_after(kind, after, way_back))
                    self.tells(step, undone(kind, after, way_back))
                    if max(rack, default=0) <= 3:
                        for thing in forest.things_up_to(rack, 3):
                            self.tells(thing, led_to(kind, after, way_back, led_to(kind, rack, step, thing)))

    def test_open_and_close(self):
        kind = tip_fork()
        self.tells(("close", 1, 2), undone(kind, (0, 3, 1), ("open", 1, 2)))
        self.tells(("open", 1, 2), undone(kind, (0, 2, 4, 1), ("close", 1, 2)))

    def test_order_is_the_place_at_which_each_place_stands(self):
        kind = tip_fork()
        self.tells(("order", (1, 2, 0)), undone(kind, (5, 6, 7), ("order", (2, 0, 1))))
        self.tells(("order", (3, 0, 2, 1)), undone(kind, (5, 6, 7, 8), ("order", (1, 3, 2, 0))))
        self.tells(("order", ()), undone(kind, (), ("order", ())))
        for places in permutations(range(4)):
            told = undone(kind, (1, 2, 3, 4), ("order", places))
            self.tells(("order", tuple([places.index(place) for place in range(4)])), told)


class AllStepsTest(Checks):

    def test_opens_and_closes_against_can_do(self):
        for makers in ALL_MAKERS:
            kind = Kind(list(makers))
            for rack in racks_for(makers):
                asked = [(place, slot) for place in range(len(rack) + 1) for slot in range(9)]
                told = [("open", place, slot) for place, slot in asked if can_do(kind, rack, ("open", place, slot))]
                self.tells(told, opens_of(rack))
                told = [("close", place, slot) for place, slot in asked if can_do(kind, rack, ("close", place, slot))]
                self.tells(told, closes_of(kind, rack))

    def test_examples(self):
        self.tells([("open", 0, 0), ("open", 2, 0), ("open", 2, 1)], opens_of((1, 0, 2)))
        self.tells([], opens_of((0, 0)))
        self.tells([], opens_of(()))
        kind = tip_fork()
        told = [("close", 1, 0), ("close", 3, 0), ("close", 3, 1)]
        self.tells(told, closes_of(kind, (3, 0, 2, 1, 3, 0)))
        self.tells([], closes_of(kind, ()))
        self.tells([], closes_of(kind, (2, 0)))
        self.tells([], closes_of(Kind(list(PAIRS)), (2, 2, 1, 1)))
        self.tells([("close", 0, 0)], closes_of(Kind(list(PAIRS)), (2, 2, 1, 1, 0)))

    def test_opens_that_would_be_too_much_are_told(self):
        self.tells([("open", 0, slot) for slot in range(200)], opens_of((200,)))
        self.tells([("open", 0, 0)], opens_of((1,) + (0,) * 3999))

    def test_many(self):
        self.tells(4000, len(self.quick(opens_of, (1,) * 4000)))
        told = self.quick(closes_of, tip_fork(), (0, 2) * 2000)
        self.tells([("close", place, 0) for place in range(0, 4000, 2)], told)

    def test_each_list_told_is_a_new_one(self):
        kind = tip_fork()
        opens_of((1,)).clear()
        self.tells([("open", 0, 0)], opens_of((1,)))
        closes_of(kind, (0, 2)).append(None)
        self.tells([("close", 0, 0)], closes_of(kind, (0, 2)))


if __name__ == "__main__":
    unittest.main()
