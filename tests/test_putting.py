"""[13] and [14]: racks put beside each other and multiplied, and their things there and back."""

import unittest

from boughswap.errors import NoRack, NoThing, TooMuch
from boughswap.kinds import Kind
from boughswap.racks import is_thing, paired, put_beside, put_left, put_right, put_times, side_of, unpaired
from helping import ALL_MAKERS, Checks, Forest, Sulky, no_racks, no_things, tip_fork

RACKS = [(), (0,), (1,), (2, 0), (0, 1, 1), (3, 1)]
TREE = (1, 0, 1, 0, 0)


def forests():
    return [(Kind(list(makers)), Forest(makers)) for makers in ALL_MAKERS]


class BesideTest(Checks):

    def test_racks(self):
        for one in RACKS:
            for two in RACKS:
                self.tells_both(one + two, put_beside, one=one, two=two)
        self.tells((200, 0, 0, 200), put_beside((200, 0), (0, 200)))

    def test_things_of_both_sides_there_and_back(self):
        for kind, forest in forests():
            for one in RACKS:
                for two in RACKS:
                    self.check_sides(kind, forest, one, two)

    def check_sides(self, kind, forest, one, two):
        led = []
        for thing in forest.things_up_to(one, 4):
            put = put_left(kind, one, two, thing)
            self.tells(thing, put)
            self.tells(("left", thing), side_of(kind, one, two, put))
            led.append(put)
        for place, row in forest.things_up_to(two, 4):
            put = put_right(kind, one, two, (place, row))
            self.tells((len(one) + place, row), put)
            self.tells(("right", (place, row)), side_of(kind, one, two, put))
            led.append(put)
        self.assertEqual(sorted(forest.things_up_to(one + two, 4)), sorted(led))

    def test_first_and_last_places(self):
        kind = tip_fork()
        one, two = (1, 0, 2), (2, 1)
        self.tells((0, TREE), put_left(kind, one, two, (0, TREE)))
        self.tells((2, (0, 0)), put_left(kind, one, two, (2, (0, 0))))
        self.tells((3, (0, 0)), put_right(kind, one, two, (0, (0, 0))))
        self.tells((4, TREE), put_right(kind, one, two, (1, TREE)))
        self.tells(("left", (2, (0, 0))), side_of(kind, one, two, (2, (0, 0))))
        self.tells(("right", (0, (0, 0))), side_of(kind, one, two, (3, (0, 0))))
        self.tells(("right", (1, TREE)), side_of(kind, one, two, (4, TREE)))

    def test_an_empty_rack_on_either_side(self):
        kind = tip_fork()
        self.tells((0, TREE), put_right(kind, (), (1,), (0, TREE)))
        self.tells(("right", (0, TREE)), side_of(kind, (), (1,), (0, TREE)))
        self.tells(("left", (0, TREE)), side_of(kind, (1,), (), (0, TREE)))
        self.refused(NoThing, put_left, kind, (), (1,), (0, TREE))
        self.refused(NoThing, put_right, kind, (1,), (), (0, TREE))
        self.refused(NoThing, side_of, kind, (), (), (0, ()))

    def test_four_thousand_forms(self):
        kind = tip_fork()
        one, two = (0,) * 1999 + (1,), (1,) * 2000
        self.tells(one + two, put_beside(one, two))
        self.tells((3999, TREE), put_right(kind, one, two, (1999, TREE)))
        self.tells(("right", (1999, TREE)), side_of(kind, one, two, (3999, TREE)))
        self.tells((0,) * 4000, put_beside((0,) * 4000, ()))
        more = two + (1,)
        self.refused_both(TooMuch, put_beside, one=one, two=more)
        self.refused(TooMuch, put_beside, more, one)
        self.refused(TooMuch, put_beside, (0,) * 4000, (0,))
        self.refused(TooMuch, put_beside, (0,), (0,) * 4000)
        for call in (put_left, put_right, side_of):
            for thing in ((1999, TREE), (2000, TREE), (0, ()), None, Sulky(), (9000, ())):
                self.refused(TooMuch, call, kind, one, more, thing)
                self.refused(TooMuch, call, kind, more, one, thing)

    def test_no_rack_first(self):
        kind = tip_fork()
        much = (0,) * 4000
        for rack in no_racks():
            for other in ((1,), much, rack):
                with self.subTest(rack=repr(rack)[:60]):
                    self.refused(NoRack, put_beside, rack, other)
                    self.refused(NoRack, put_beside, other, rack)
                    for call in (put_left, put_right, side_of):
                        for thing in ((0, (0,)), None):
                            self.refused(NoRack, call, kind, rack, other, thing)
                            self.refused(NoRack, call, kind, other, rack, thing)

    def test_no_thing(self):
        kind = tip_fork()
        for thing in no_things():
            with self.subTest(repr(thing)):
                for call in (put_left, put_right, side_of):
                    self.refused(NoThing, call, kind, (1, 0), (1, 2), thing)
        # A thing of the other rack, or of the place behind the last, is none.
        self.refused(NoThing, put_left, kind, (1,), (2,), (0, (0, 0)))
        self.refused(NoThing, put_left, kind, (1,), (2,), (1, (0, 0)))
        self.refused(NoThing, put_right, kind, (1,), (2,), (0, (0,)))
        self.refused(NoThing, put_right, kind, (1,), (2,), (1, (0, 0)))
        self.refused(NoThing, side_of, kind, (1,), (2,), (2, (0, 0)))
        self.refused(NoThing, side_of, kind, (1,), (2,), (1, (0,)))

    def test_by_names(self):
        kind = tip_fork()
        self.tells_both((0, (0,)), put_left, kind=kind, one=(1,), two=(2,), thing=(0, (0,)))
        self.tells_both((1, (0, 0)), put_right, kind=kind, one=(1,), two=(2,), thing=(0, (0, 0)))
        self.tells_both(("right", (0, (0, 0))), side_of, kind=kind, one=(1,), two=(2,), thing=(1, (0, 0)))
        for call in (put_left, put_right, side_of):
            self.refused_both(NoThing, call, kind=kind, one=(1,), two=(2,), thing=(0, ()))


class TimesTest(Checks):

    def test_order_of_forms(self):
        self.tells_both((12, 13, 15, 22, 23, 25), put_times, one=(10, 20), two=(2, 3, 5))
        self.tells((12, 22, 13, 23, 15, 25), put_times((2, 3, 5), (10, 20)))
        for one in RACKS:
            for two in RACKS:
                self.tells(tuple([x + y for x in one for y in two]), put_times(one, two))

    def test_an_empty_rack(self):
        for rack in RACKS + [(200,), (0,) * 4000]:
            self.tells((), put_times((), rack))
            self.tells((), put_times(rack, ()))
            self.tells(rack, put_times((0,), rack))
            self.tells(rack, put_times(rack, (0,)))
        kind = tip_fork()
        self.refused(NoThing, paired, kind, (), (1,), (0, (0,)), (0, (0,)))
        self.refused(NoThing, paired, kind, (1,), (), (0, (0,)), (0, (0,)))
        self.refused(NoThing, unpaired, kind, (), (1,), (0, (0,)))

    def test_things_there_and_back(self):
        for kind, forest in forests():
            for one in RACKS:
                for two in RACKS:
                    self.check_pairs(kind, forest, one, two)

    def check_pairs(self, kind, forest, one, two):
        led = []
        for thing in forest.things_up_to(one, 3):
            for other in forest.things_up_to(two, 3):
                put = paired(kind, one, two, thing, other)
                self.tells((thing[0] * len(two) + other[0], thing[1] + other[1]), put)
                self.tells((thing, other), unpaired(kind, one, two, put))
                led.append(put)
        both = put_times(one, two)
        self.assertEqual(len(led), len(set(led)))
        for thing in forest.things_up_to(both, 3):
            self.assertIn(thing, led)
            first, second = unpaired(kind, one, two, thing)
            self.assertTrue(is_thing(kind, one, first) and is_thing(kind, two, second))

    def test_forms_of_no_trees(self):
        kind = tip_fork()
        self.tells((1, TREE), paired(kind, (0, 0), (1,), (1, ()), (0, TREE)))
        self.tells(((1, ()), (0, TREE)), unpaired(kind, (0, 0), (1,), (1, TREE)))
        self.tells(((0, TREE), (1, ())), unpaired(kind, (1,), (0, 0), (1, TREE)))
        self.tells(((1, ()), (2, ())), unpaired(kind, (0, 0), (0, 0, 0), (5, ())))
        self.tells((5, ()), paired(kind, (0, 0), (0, 0, 0), (1, ()), (2, ())))

    def test_where_the_row_is_parted(self):
        kind = tip_fork()
        row = TREE + (0,) + (1, 0, 0) + TREE
        self.tells(((0, row[:6]), (0, row[6:])), unpaired(kind, (2,), (2,), (0, row)))
        self.tells(((0, row[:5]), (0, row[5:])), unpaired(kind, (1,), (3,), (0, row)))
        self.tells(((0, row), (0, ())), unpaired(kind, (4,), (0,), (0, row)))

    def test_too_many_forms(self):
        kind = tip_fork()
        self.tells((0,) * 4000, put_times((0,) * 50, (0,) * 80))
        self.tells((200,) * 4000, put_times((100,) * 4000, (100,)))
        for one, two in (((0,) * 4000, (0, 0)), ((0,) * 3, (0,) * 1334), ((0,) * 4000, (0,) * 4000),
                         ((1,) * 61, (1,) * 67)):
            self.refused_both(TooMuch, put_times, one=one, two=two)
            self.refused(TooMuch, put_times, two, one)
            self.refused(TooMuch, paired, kind, one, two, (0, ()), (0, ()))
            self.refused(TooMuch, unpaired, kind, one, two, None)
        self.tells(3999, len(put_times((0,) * 3, (0,) * 1333)))

    def test_too_many_trees(self):
        kind = tip_fork()
        self.tells((200, 199, 1, 0), put_times((199, 0), (1, 0)))
        for one, two in (((200,), (1,)), ((1,), (200,)), ((0, 150, 0), (0, 51, 3)), ((101,), (0, 100)),
                         ((200,), (200,))):
            self.refused_both(TooMuch, put_times, one=one, two=two)
            for thing in ((0, ()), None, Sulky()):
                self.refused(TooMuch, paired, kind, one, two, thing, thing)
                self.refused(TooMuch, unpaired, kind, one, two, thing)

    def test_no_rack_first(self):
        kind = tip_fork()
        for rack in no_racks():
            for other in ((1,), (200,) * 4000, (), rack):
                with self.subTest(rack=repr(rack)[:60]):
                    self.refused(NoRack, put_times, rack, other)
                    self.refused(NoRack, put_times, other, rack)
                    for thing in ((0, (0,)), None):
                        self.refused(NoRack, paired, kind, rack, other, thing, thing)
                        self.refused(NoRack, paired, kind, other, rack, thing, thing)
                        self.refused(NoRack, unpaired, kind, rack, other, thing)
                        self.refused(NoRack, unpaired, kind, other, rack, thing)

    def test_no_thing(self):
        kind = tip_fork()
        good = (0, (0,))
        for thing in no_things():
            with self.subTest(repr(thing)):
                self.refused(NoThing, paired, kind, (1, 0), (1, 2), thing, good)
                self.refused(NoThing, paired, kind, (1, 0), (1, 2), good, thing)
                self.refused(NoThing, unpaired, kind, (1, 0), (1, 2), thing)
        self.refused(NoThing, paired, kind, (1,), (2,), (0, (0, 0)), (0, (0,)))
        self.refused(NoThing, paired, kind, (1,), (2,), (0, (0,)), (0, (0,)))
        self.refused(NoThing, unpaired, kind, (1,), (2,), (0, (0, 0)))
        self.refused(NoThing, unpaired, kind, (1,), (2,), (1, (0, 0, 0)))

    def test_by_names(self):
        kind = tip_fork()
        self.tells_both((1, (0, 0)), paired, kind=kind, one=(1,), two=(2, 1), thing=(0, (0,)), other=(1, (0,)))
        self.tells_both(((0, (0,)), (1, (0,))), unpaired, kind=kind, one=(1,), two=(2, 1), thing=(1, (0, 0)))
        self.refused_both(NoThing, paired, kind=kind, one=(1,), two=(2, 1), thing=(0, (0,)), other=(2, (0,)))
        self.refused_both(NoThing, unpaired, kind=kind, one=(1,), two=(2, 1), thing=(2, (0, 0)))


if __name__ == "__main__":
    unittest.main()
